import PyProof.Rows.All
import Wide.All
import OpenK.AllK
import Wide.FinOn
import HandS.TupSets
import HandS.SortInts
import HandS.SortRule
import HandS.Strs
import HandS.ForExc
import HandS.ForMost
import HandS.ExcCtx
import HandS.HotCalls
import HandS.ExcIs
import HandS.IsInst
import HandS.More
import HandS.Flow
import HandS.Evl
import HandS.SetIn
import HandS.Deep
import HandS.Style
import HandS.Zip
import HandS.Text
import HandS.Iter
import HandS.FStr
import HandS.SetFor
import HandS.Sort
import PyProof.DictUpdate
import PyProof.ListRange
import HandS.Walk
import HandS.Small
import PySem.Challenge.RW_oddpairs_k12_texts
set_option Elab.async false
set_option linter.all false
set_option maxRecDepth 100000
set_option maxHeartbeats 4000000

/-! Sets of tuples of ints, up to a thousand members: the masks 7, 31, 127, 511, 2047. -/
namespace Bs
open PySem PySem.Spec PyProof.Rows L2

/-- the masks that come while a set grows one by one to a thousand -/
def Msk (m : Nat) : Prop := m = 7 ∨ m = 31 ∨ m = 127 ∨ m = 511 ∨ m = 2047

/-! ### the round of the leaps -/
def st5 (m x : Nat) : Nat := (x * 5 + 1) % (m + 1)
/-- f steps from x: where one stands, and a number whose bits tell where one was -/
def trail (m : Nat) : Nat → Nat → Nat → Nat × Nat
  | 0, x, acc => (x, acc)
  | f + 1, x, acc => trail m f (st5 m x) (acc ||| (1 <<< x))
theorem lcgI_front (m : Nat) : ∀ (k x : Nat), lcgI m x (k + 1) = lcgI m (st5 m x) k
  | 0, _ => rfl
  | k + 1, x => by
    show (lcgI m x (k + 1) * 5 + 1) % (m + 1) = (lcgI m (st5 m x) k * 5 + 1) % (m + 1)
    rw [lcgI_front m k x]
theorem trail_at (m : Nat) : ∀ (f x acc : Nat), (trail m f x acc).1 = lcgI m x f
  | 0, _, _ => rfl
  | f + 1, x, acc => (trail_at m f _ _).trans (lcgI_front m f x).symm
theorem trail_bit (m j : Nat) : ∀ (f x acc : Nat), (trail m f x acc).2.testBit j = true → acc.testBit j = true ∨ ∃ b, b < f ∧ lcgI m x b = j
  | 0, _, _, h => .inl h
  | f + 1, x, acc, h => by
    rcases trail_bit m j f _ _ h with c | ⟨b, hb, e⟩
    · rw [Nat.testBit_or, Nat.one_shiftLeft, Nat.testBit_two_pow, Bool.or_eq_true, decide_eq_true_eq] at c
      rcases c with c | c
      · exact .inl c
      · exact .inr ⟨0, Nat.succ_pos _, c⟩
    · exact .inr ⟨b + 1, Nat.succ_lt_succ hb, (lcgI_front m b x).trans e⟩
theorem trail_all {m : Nat} (h : Msk m) : trail m (m + 1) 0 0 = (0, 2 ^ (m + 1) - 1) := by
  rcases h with e | e | e | e | e <;> subst e <;> decide +kernel
theorem lcgI_plus (m x a : Nat) : ∀ k, lcgI m (lcgI m x a) k = lcgI m x (a + k)
  | 0 => rfl
  | k + 1 => congrArg (st5 m) (lcgI_plus m x a k)
theorem round_all {m : Nat} (h : Msk m) {i j : Nat} (hi : i ≤ m) (hj : j ≤ m) : ∃ k, k ≤ m ∧ lcgI m i k = j := by
  have T := trail_all h
  have back : lcgI m 0 (m + 1) = 0 := by rw [← trail_at m (m + 1) 0 0, T]
  have hit : ∀ y, y ≤ m → ∃ b, b ≤ m ∧ lcgI m 0 b = y := fun y hy => by
    have q : (trail m (m + 1) 0 0).2.testBit y = true := by
      rw [T]
      show (2 ^ (m + 1) - 1).testBit y = true
      rw [Nat.testBit_two_pow_sub_one, decide_eq_true_eq]
      omega
    rcases trail_bit m y _ _ _ q with c | ⟨b, hb, e⟩
    · rw [Nat.zero_testBit] at c; cases c
    · exact ⟨b, Nat.le_of_lt_succ hb, e⟩
  obtain ⟨a, ha, ea⟩ := hit i hi
  obtain ⟨b, hb, eb⟩ := hit j hj
  subst ea
  by_cases c : a ≤ b
  · exact ⟨b - a, by omega, by rw [lcgI_plus, Nat.add_sub_cancel' c]; exact eb⟩
  · refine ⟨m + 1 + b - a, by omega, ?_⟩
    rw [lcgI_plus, show a + (m + 1 + b - a) = m + 1 + b by omega, ← lcgI_plus m 0 (m + 1) b, back]
    exact eb
theorem begins {m : Nat} (h : Msk m) (x : Int) {j : Nat} (hj : j ≤ m) : ∃ n, n ≤ m + 12 ∧ runI m (SetTable.bits x) n = j := by
  obtain ⟨k, hk, e⟩ := round_all h (runI_le m (SetTable.bits x) 12) hj
  exact ⟨12 + k, by omega, (runI_tail (bits_lt x) k).trans e⟩
theorem way_top {m : Nat} {x : Int} {k : Nat} : way m x k ≤ m := by
  have hi : SetTable.bits x % (m + 1) ≤ m := Nat.le_of_lt_succ (Nat.mod_lt _ (Nat.succ_pos _))
  have r := runEnd_bd hi
  have q : (nth m (runAt m (SetTable.bits x % (m + 1)) (SetTable.bits x)) k).j + _ ≤ m := nth_in (m := m) k _ (by
    show SetTable.bits x % (m + 1) + (SetTable.runEnd m (SetTable.bits x % (m + 1)) - SetTable.bits x % (m + 1)) ≤ m
    omega)
  exact Nat.le_trans (Nat.le_add_right _ _) q
theorem comes {m : Nat} (h : Msk m) (x : Int) {j : Nat} (hj : j ≤ m) : ∃ k, k < 10 * SetTable.turns m ∧ way m x k = j := by
  obtain ⟨n, hn, e⟩ := begins h x hj
  obtain ⟨k, hk, e2⟩ := run_nth m (SetTable.bits x) n
  refine ⟨k, by unfold SetTable.turns; omega, ?_⟩
  show (nth m _ k).j = j
  rw [e2]
  exact e

/-! ### tables -/
/-- a table in which each hash is found again, no slot between being empty -/
structure Tab (t : SetTable) (hs : List Int) : Prop where
  up : Ris t.place.toList
  dm : t.dummies = #[]
  sz : t.place.toList.length = hs.length
  ms : Msk t.mask
  bd : ∀ x ∈ t.place.toList, x ≤ t.mask
  fd : ∀ (i : Nat) (x : Int) (j : Nat), hs[i]? = some x → t.place.toList[i]? = some j → ∃ k, way t.mask x k = j ∧ ∀ k', k' < k → way t.mask x k' ∈ t.place.toList
theorem Tab.gap {t : SetTable} {hs : List Int} (T : Tab t hs) (hl : hs.length ≤ t.mask) (x : Int) :
    ∃ K, K < 10 * SetTable.turns t.mask ∧ way t.mask x K ∉ t.place.toList ∧ ∀ k, k < K → way t.mask x k ∈ t.place.toList := by
  have z := T.sz
  obtain ⟨j, hj, hn⟩ := st_missing t.place.toList (t.mask + 1) (by omega)
  obtain ⟨k, hk, e⟩ := comes T.ms x (Nat.le_of_lt_succ hj)
  obtain ⟨K, a, b, c⟩ := st_least (p := fun k => way t.mask x k ∉ t.place.toList) k (fun q => hn (e ▸ q))
  exact ⟨K, Nat.lt_of_le_of_lt a hk, b, fun k' q => Classical.byContradiction fun y => c k' q y⟩
theorem Tab.ahead {t : SetTable} {hs : List Int} (T : Tab t hs) {x : Int} {K i j : Nat} (hK : way t.mask x K ∉ t.place.toList) (hi : hs[i]? = some x) (hj : t.place.toList[i]? = some j) : ∃ k, k < K ∧ way t.mask x k = j := by
  obtain ⟨k, e, hb⟩ := T.fd i x j hi hj
  refine ⟨k, Nat.lt_of_not_le fun c => ?_, e⟩
  rcases Nat.lt_or_eq_of_le c with c | c
  · exact hK (hb K c)
  · subst c
    exact hK (e ▸ List.mem_of_getElem? hj)
theorem Tab.place {t : SetTable} {hs : List Int} (T : Tab t hs) {x : Int} {K : Nat} (hK : way t.mask x K ∉ t.place.toList) (hb : ∀ k, k < K → way t.mask x k ∈ t.place.toList) :
    ∃ p t1, t.put (way t.mask x K) = (t1, p) ∧ p ≤ hs.length ∧ Tab t1 (hs.take p ++ x :: hs.drop p) ∧ t1.mask = t.mask ∧ t1.led = t.led ∧ t1.plain = t.plain ∧ t1.fill = hs.length + 1 := by
  obtain ⟨j, hj⟩ : ∃ j, j = way t.mask x K := ⟨_, rfl⟩
  have top : j ≤ t.mask := by rw [hj]; exact way_top
  rw [← hj] at hK ⊢
  have lo : SetTable.below t.place j ≤ t.place.toList.length := (below_cut T.up j).1
  have lh : SetTable.below t.place j ≤ hs.length := by rw [← T.sz]; exact lo
  have pp := put_place t j
  have up : ∀ {y : Nat}, y ∈ t.place.toList → y ∈ (t.put j).1.place.toList := fun hy => by rw [pp]; exact mem_ins.2 (.inr hy)
  have ln : (t.put j).1.place.toList.length = hs.length + 1 := by rw [pp, len_ins _ lo, T.sz]
  refine ⟨SetTable.below t.place j, (t.put j).1, rfl, lh, ⟨?_, put_dm T.dm j, ?_, T.ms, fun y hy => ?_, fun i x' j' a b => ?_⟩, rfl, rfl, rfl, ?_⟩
  · exact ris_insert T.up fun e => hK (List.mem_of_getElem? (by rw [Array.getElem?_toList]; exact e))
  · rw [len_ins _ lh]; exact ln
  · rw [pp] at hy
    rcases mem_ins.1 hy with z | z
    · rw [z]; exact top
    · exact T.bd y z
  · rw [tins_get hs lh] at a
    rw [pp, tins_get _ lo] at b
    show ∃ k, way t.mask x' k = j' ∧ ∀ k', k' < k → way t.mask x' k' ∈ (t.put j).1.place.toList
    have old : ∀ i', hs[i']? = some x' → t.place.toList[i']? = some j' → ∃ k, way t.mask x' k = j' ∧ ∀ k', k' < k → way t.mask x' k' ∈ (t.put j).1.place.toList := fun i' a' b' => by
      obtain ⟨k, e, z⟩ := T.fd i' x' j' a' b'
      exact ⟨k, e, fun k' q => up (z k' q)⟩
    by_cases c : i < SetTable.below t.place j
    · rw [if_pos c] at a b; exact old i a b
    · by_cases d : i = SetTable.below t.place j
      · rw [if_neg c, if_pos d] at a b
        cases a; cases b
        exact ⟨K, hj.symm, fun k' q => up (hb k' q)⟩
      · rw [if_neg c, if_neg d] at a b; exact old _ a b
  · show (t.put j).1.place.size + (t.put j).1.dummies.size = hs.length + 1
    rw [put_dm T.dm j, ← Array.length_toList, ln]; rfl

/-! ### a table laid anew -/
theorem sits {m : Nat} (hm : Msk m) (ow : Array (Option Nat)) (x : Int) {j : Nat} (hj : j ≤ m) (hf : oAt ow j = none) :
    ∃ K, SetTable.layClean.free m ow (SetTable.turns m) (SetTable.bits x % (m + 1)) (SetTable.bits x) = some (way m x K) ∧ oAt ow (way m x K) = none ∧ ∀ k, k < K → oAt ow (way m x k) ≠ none := by
  obtain ⟨n, hn, e⟩ := begins hm x hj
  have hw : way m x (off m (SetTable.bits x % (m + 1)) (SetTable.bits x) n) = j := by
    show (nth m (runAt m (SetTable.bits x % (m + 1)) (SetTable.bits x)) _).j = j
    rw [nth_off, itL_run]; exact e
  obtain ⟨K, k1, k2, k3⟩ := st_least (p := fun k => oAt ow (way m x k) = none) _ (show oAt ow (way m x _) = none from hw ▸ hf)
  refine ⟨K, free_spec m ow (SetTable.turns m) n _ _ K (by unfold SetTable.turns; omega) k1 (fun k q => ?_) ?_, k2, k3⟩
  · exact Option.isNone_eq_false_iff.mpr (Option.isSome_iff_ne_none.mpr (k3 k q))
  · exact Option.isNone_iff_eq_none.mpr k2
theorem sits_more {m : Nat} (hm : Msk m) {dn : List Int} {ow : Array (Option Nat)} (W : Own m dn ow) (hl : dn.length ≤ m) (x : Int) :
    ∃ j, SetTable.layClean.free m ow (SetTable.turns m) (SetTable.bits x % (m + 1)) (SetTable.bits x) = some j ∧ Own m (dn ++ [x]) (ow.setIfInBounds j (some dn.length)) := by
  obtain ⟨ps, hps, hin⟩ := W.ps
  obtain ⟨j0, h0, n0⟩ := st_missing ps (m + 1) (by omega)
  have f0 : oAt ow j0 = none := Classical.byContradiction fun z => n0 (hin j0 (Nat.le_of_lt_succ h0) z)
  obtain ⟨K, e1, e2, e3⟩ := sits hm ow x (Nat.le_of_lt_succ h0) f0
  have hjm : way m x K ≤ m := way_top
  have own := oAt_set_self (owner := ow) (j := way m x K) (some dn.length) (by rw [W.sz]; exact Nat.lt_succ_of_le hjm)
  have keep : ∀ {i : Nat}, oAt ow i ≠ none → oAt (ow.setIfInBounds (way m x K) (some dn.length)) i ≠ none := fun {i} hi => by
    by_cases c : i = way m x K
    · rw [c, own]; exact fun z => nomatch z
    · rw [oAt_set_ne _ c]; exact hi
  refine ⟨way m x K, e1, by rw [Array.size_setIfInBounds]; exact W.sz, fun j k hj e => ?_, fun k hk => ?_, way m x K :: ps, by rw [List.length_cons, List.length_append, hps]; rfl, fun j hj e => ?_⟩
  · by_cases c : j = way m x K
    · rw [c, own] at e
      cases e
      exact ⟨x, K, by rw [List.getElem?_append_right (Nat.le_refl _), Nat.sub_self]; rfl, c.symm, fun k' q => keep (e3 k' q)⟩
    · rw [oAt_set_ne _ c] at e
      obtain ⟨y, K', a, b, d⟩ := W.at_ j k hj e
      exact ⟨y, K', by rw [List.getElem?_append_left (List.getElem?_eq_some_iff.mp a).1]; exact a, b, fun k' q => keep (d k' q)⟩
  · rw [List.length_append, List.length_singleton] at hk
    by_cases c : k < dn.length
    · obtain ⟨j, hj, e⟩ := W.all k c
      exact ⟨j, hj, by rw [oAt_set_ne _ (fun z => by rw [z, e2] at e; cases e)]; exact e⟩
    · exact ⟨way m x K, hjm, by rw [own, show k = dn.length by omega]⟩
  · by_cases c : j = way m x K
    · exact c ▸ List.mem_cons_self
    · rw [oAt_set_ne _ c] at e
      exact List.mem_cons_of_mem _ (hin j hj e)
theorem sits_all {m : Nat} (hm : Msk m) : ∀ (rest dn : List Int) (ow : Array (Option Nat)), Own m dn ow → dn.length + rest.length ≤ m →
    ∃ ow', rest.foldl (stepF m) (some (ow, dn.length)) = some (ow', (dn ++ rest).length) ∧ Own m (dn ++ rest) ow'
  | [], dn, ow, W, _ => ⟨ow, by rw [List.append_nil]; rfl, by rw [List.append_nil]; exact W⟩
  | x :: rest, dn, ow, W, hl => by
    obtain ⟨j, e, W1⟩ := sits_more hm W (by rw [List.length_cons] at hl; omega) x
    have l1 : (dn ++ [x]).length = dn.length + 1 := List.length_append
    obtain ⟨ow', f, W2⟩ := sits_all hm rest (dn ++ [x]) _ W1 (by rw [l1]; rw [List.length_cons] at hl; omega)
    have ea : dn ++ [x] ++ rest = dn ++ x :: rest := by rw [List.append_assoc]; rfl
    rw [ea] at W2
    rw [ea, l1] at f
    exact ⟨ow', by rw [List.foldl_cons, stepF_some e]; exact f, W2⟩
theorem anew (t : SetTable) {hs : Array Int} {wanted M : Nat} (hw : SetTable.sizeAbove wanted - 1 = M) (hM : Msk M) (hn : hs.size ≤ M) :
    ∃ t' order, t.relaid hs wanted = some (t', order) ∧ order.toList.Perm (List.range hs.size) ∧ Tab t' (order.toList.map fun i => hs.getD i 0) ∧ t'.mask = M ∧ t'.led = t.led ∧ t'.plain = t.plain := by
  obtain ⟨ow, f, W⟩ := sits_all hM hs.toList [] _ (Own.init M) (by show 0 + hs.size ≤ M; omega)
  rw [List.nil_append] at W
  have lay : SetTable.layClean M hs = some ow := by
    rw [layClean_eq, show hs.toList.foldl (stepF M) (some (Array.replicate (M + 1) none, 0)) = _ from f]; rfl
  have hr : t.relaid hs wanted = some (tabOf t M ow, ((liveOf M ow).map (·.2)).toArray) := by rw [relaid_eq, hw, lay]; rfl
  obtain ⟨r1, r2⟩ := ris_live (fun j => ow.getD j none) (List.range (M + 1)) (by unfold Ris; exact List.pairwise_lt_range)
  have r1' : Ris ((liveOf M ow).map (·.1)) := r1
  have r2' : ∀ x ∈ (liveOf M ow).map (·.1), x ∈ List.range (M + 1) := r2
  have le : (liveOf M ow).length = hs.size := by
    obtain ⟨ps, p1, p2⟩ := W.ps
    have nd : ((liveOf M ow).map (·.1)).Nodup := List.Pairwise.imp (fun h => Nat.ne_of_lt h) r1'
    have a := nat_nodup_len ((liveOf M ow).map (·.1)) ps nd fun x hx => by
      obtain ⟨⟨y, k⟩, hq, rfl⟩ := List.mem_map.mp hx
      obtain ⟨b1, b2⟩ := (mem_live W.sz).1 hq
      exact p2 y b1 (by rw [b2]; exact fun z => nomatch z)
    have b := nat_nodup_len (List.range hs.size) ((liveOf M ow).map (·.2)) List.nodup_range fun k hk => by
      obtain ⟨j, b1, b2⟩ := W.all k (List.mem_range.mp hk)
      exact List.mem_map.mpr ⟨(j, k), (mem_live W.sz).2 ⟨b1, b2⟩, rfl⟩
    rw [List.length_map, p1] at a
    rw [List.length_map, List.length_range] at b
    exact Nat.le_antisymm a b
  refine ⟨_, _, hr, perm_range hs.size _ (by rw [List.toList_toArray, List.length_map]; exact le) fun k hk => ?_, ⟨r1', rfl, ?_, hM, fun x hx => ?_, fun i x j a b => ?_⟩, rfl, rfl, rfl⟩
  · obtain ⟨j, b1, b2⟩ := W.all k hk
    exact List.mem_map.mpr ⟨(j, k), (mem_live W.sz).2 ⟨b1, b2⟩, rfl⟩
  · show ((liveOf M ow).map (·.1)).length = (((liveOf M ow).map (·.2)).map fun i => hs.getD i 0).length
    rw [List.length_map, List.length_map, List.length_map]
  · exact Nat.le_of_lt_succ (List.mem_range.mp (r2' x hx))
  · have a' : (((liveOf M ow).map (·.2)).map fun i => hs.getD i 0)[i]? = some x := a
    have b' : ((liveOf M ow).map (·.1))[i]? = some j := b
    rw [List.getElem?_map, List.getElem?_map] at a'
    rw [List.getElem?_map] at b'
    cases hq : (liveOf M ow)[i]? with
    | none => rw [hq] at b'; cases b'
    | some q =>
      rw [hq] at a' b'
      cases b'
      obtain ⟨b1, b2⟩ := (mem_live W.sz).1 (List.mem_of_getElem? (show (liveOf M ow)[i]? = some (q.1, q.2) from hq))
      obtain ⟨y, K, c1, c2, c3⟩ := W.at_ q.1 q.2 b1 b2
      have ey : hs.getD q.2 0 = y := by rw [Array.getD_eq_getD_getElem?, ← Array.getElem?_toList, c1]; rfl
      have ex : y = x := ey.symm.trans (Option.some.inj a')
      subst ex
      refine ⟨K, c2, fun k' q' => ?_⟩
      show way M y k' ∈ (liveOf M ow).map (·.1)
      cases z : oAt ow (way M y k') with
      | none => exact absurd z (c3 k' q')
      | some k2 => exact List.mem_map.mpr ⟨(_, k2), (mem_live W.sz).2 ⟨way_top, z⟩, rfl⟩
end Bs

namespace Bs
open PySem PySem.Spec PyProof.Rows L2

/-- at a stands the set of the tuples L (address and ints), its entries es, its table t -/
structure At (P : Program) (w : World) (h : Heap) (a : Addr) (L : List (Addr × List Int)) (es : Array (Int × Value)) (ep : Nat) (t : SetTable) : Prop where
  ob : ∃ o, h.get? a = some o ∧ o.ExactSet ∧ o.data = .set es ep t
  rw_ : es.toList = rowsOf P w L
  tb : Tab t (L.map fun p => thash P w p.2)
  nd : (L.map (·.2)).Nodup
  tp : ∀ p ∈ L, IsT P w h p.2 p.1
  pl : t.plain = true
  ld : w.params.followText "set-order" = true ∨ t.led = true
  rm : L.length * 5 < t.mask * 3
  fw : L.length < 1200
section
variable {P : Program} {w : World} {A : Around} {E : Value → Shared → Prop} {s : Shared}
variable {a : Addr} {L : List (Addr × List Int)} {es : Array (Int × Value)} {ep : Nat} {t : SetTable}
theorem rows_len (h : es.toList = rowsOf P w L) : es.size = L.length := by
  rw [← Array.length_toList, h]; exact List.length_map _
theorem At.n (R : At P w s.heap a L es ep t) : es.size = L.length := rows_len R.rw_
theorem fits_of {n : Nat} (dm : t.dummies = #[]) (hz : t.place.toList.length = n) (hm : n ≤ t.mask) : t.fits n = true := by
  unfold SetTable.fits SetTable.fill
  rw [dm, Bool.and_eq_true, beq_iff_eq, decide_eq_true_eq]
  exact ⟨hz, by show t.place.size + 0 ≤ t.mask; rw [show t.place.size = n from hz]; exact hm⟩
theorem At.fits (R : At P w s.heap a L es ep t) : t.fits es.size = true := by
  have q := R.rm
  refine fits_of R.tb.dm ?_ (by rw [R.n]; omega)
  rw [R.tb.sz, List.length_map, R.n]
theorem At.row (R : At P w s.heap a L es ep t) {i : Nat} {p : Addr × List Int} (h : L[i]? = some p) : es[i]? = some (thash P w p.2, Value.ref p.1) := by
  rw [← Array.getElem?_toList, R.rw_]
  show (L.map _)[i]? = _
  rw [List.getElem?_map, h]; rfl
theorem no_way (hm : Msk t.mask) : ¬ t.gaveWay = true := by
  unfold SetTable.gaveWay
  rcases hm with e | e | e | e | e <;> rw [e] <;> decide
theorem nth_dummy (m : Nat) : ∀ (n : Nat) (p : SetTable.Probe), p.dummy = none → (nth m p n).dummy = none
  | 0, _, h => h
  | n + 1, p, h => nth_dummy m n (adv m p) (by unfold adv; split <;> exact h)
abbrev go0 (m : Nat) (x : Int) : SetTable.Probe := runAt m (SetTable.bits x % (m + 1)) (SetTable.bits x)

/-- the search from the c-th step of the way on, whether one is to be added or not -/
theorem seek (R : At P w s.heap a L es ep t) {x : Addr} {k : List Int} {ad : Bool} (hx : IsT P w s.heap k x) (hu : A.units < cLine) {K : Nat} (hKf : K < 10 * SetTable.turns t.mask)
    (hK : way t.mask (thash P w k) K ∉ t.place.toList) (hKb : ∀ c, c < K → way t.mask (thash P w k) c ∈ t.place.toList) {Q : SetFound → Shared → Prop}
    (hin : k ∈ L.map (·.2) → ∀ o : Option Nat, (ad = false → o.isSome = true) → Q (.there o) s) (hout : k ∉ L.map (·.2) → Q (.free (way t.mask (thash P w k) K) false) s) :
    ∀ (f c : Nat) (stand : Option SetTable.Probe), stand.getD (t.probeStart (thash P w k)) = nth t.mask (go0 t.mask (thash P w k)) c → c ≤ K → K - c < f →
      (∀ (i : Nat) p, L[i]? = some p → p.2 = k → ∃ c', c ≤ c' ∧ c' < K ∧ t.place.toList[i]? = some (way t.mask (thash P w k) c')) →
      wpAny (model P w) A (setSearchFrom a (.ref x) (thash P w k) ad f stand) Q E s
  | 0, _, _, _, _, hf, _ => absurd hf (Nat.not_lt_zero _)
  | f + 1, c, stand, hst, hc, hf, hre => by
    obtain ⟨o, ho, hex, hd⟩ := R.ob
    rw [setSearchFrom_succ]
    refine wpAny_bind (wpAny_setState_of ho hd R.fits ?_)
    dsimp only
    refine wp_if_neg (no_way R.tb.ms) ?_
    try refine wpAny_bind (wpAny_pure ?_)
    have step : ∀ q, nth t.mask (nth t.mask (go0 t.mask (thash P w k)) c) q = nth t.mask (go0 t.mask (thash P w k)) (c + q) := fun q => (nth_add t.mask c _ q).symm
    have sj : ∀ q, (nth t.mask (nth t.mask (go0 t.mask (thash P w k)) c) q).j = way t.mask (thash P w k) (c + q) := fun q => congrArg SetTable.Probe.j (step q)
    have cK : c + (K - c) = K := Nat.add_sub_cancel' hc
    have spec := go_spec t R.tb.up R.tb.dm (fun i => (es[i]?.map (·.1)).getD 0) (thash P w k) (10 * SetTable.turns t.mask) (K - c) (nth t.mask (go0 t.mask (thash P w k)) c) (nth_dummy _ c _ rfl) (by omega)
      (fun q hq => by rw [sj]; exact hKb _ (by omega)) (by rw [sj, cK]; exact hK)
    have hashAt : ∀ (i : Nat) p, L[i]? = some p → (es[i]?.map (·.1)).getD 0 = thash P w p.2 := fun i p hp => by rw [R.row hp]; rfl
    have far : ∀ (c' i0 : Nat) p0, c ≤ c' → L[i0]? = some p0 → p0.2 = k → t.place.toList[i0]? = some (way t.mask (thash P w k) c') →
        t.place.toList[i0]? = some (nth t.mask (nth t.mask (go0 t.mask (thash P w k)) c) (c' - c)).j ∧ (es[i0]?.map (·.1)).getD 0 = thash P w k := fun c' i0 p0 h1 h2 h3 h4 => by
      refine ⟨?_, (hashAt i0 p0 h2).trans (congrArg _ h3)⟩
      rw [sj, Nat.add_sub_cancel' h1]; exact h4
    rcases spec with ⟨q, i, hq, hi, hh, hno, hpr⟩ | ⟨hno, hpr⟩
    · rw [show t.probe (fun i => (es[i]?.map (·.1)).getD 0) (thash P w k) (stand.getD (t.probeStart (thash P w k))) = _ from (congrArg _ hst).trans hpr]
      dsimp only
      rw [sj] at hi ⊢
      rw [step]
      have hil : i < L.length := by
        have h1 := (List.getElem?_eq_some_iff.mp hi).1
        rw [R.tb.sz, List.length_map] at h1; exact h1
      obtain ⟨p, hp⟩ : ∃ p, L[i]? = some p := ⟨_, List.getElem?_eq_getElem hil⟩
      have hmem : p ∈ L := List.mem_of_getElem? hp
      have more : p.2 ≠ k → wpAny (model P w) A (setSearchFrom a (.ref x) (thash P w k) ad f (some (nth t.mask (go0 t.mask (thash P w k)) (c + (q + 1))))) Q E s := fun hne => by
        refine seek R hx hu hKf hK hKb hin hout f _ _ rfl (by omega) (by omega) fun i0 p0 h0 hk0 => ?_
        obtain ⟨c', a1, a2, a3⟩ := hre i0 p0 h0 hk0
        refine ⟨c', Nat.lt_of_not_le fun z => ?_, a2, a3⟩
        obtain ⟨b1, b2⟩ := far c' i0 p0 a1 h0 hk0 a3
        rcases Nat.lt_or_eq_of_le (show c' ≤ c + q from z) with y | y
        · exact hno (c' - c) i0 (by omega) b1 b2
        · rw [y] at a3
          have s0 := (slot_live R.tb.up a3).symm.trans (slot_live R.tb.up hi)
          cases s0
          rw [hp] at h0
          cases h0
          exact hne hk0
      have rest : wpAny (model P w) A (searchRest a (.ref x) (thash P w k) ad f es t (way t.mask (thash P w k) (c + q)) i (nth t.mask (go0 t.mask (thash P w k)) (c + (q + 1)))) Q E s := by
        unfold searchRest
        rw [R.row hp]
        dsimp only
        refine wpAny_bind (wpAny_holding (wpAny_eqBool_tuple hu (R.tp p hmem) hx ?_))
        refine wpAny_bind (wpAny_setState_of ho hd R.fits ?_)
        dsimp only
        have live : ∀ e : Bool, (e = true → wpAny (model P w) A (pure (SetFound.there (some i)) : Sem SetFound) Q E s) → (e = false → wpAny (model P w) A (setSearchFrom a (.ref x) (thash P w k) ad f (some (nth t.mask (go0 t.mask (thash P w k)) (c + (q + 1))))) Q E s) →
            wpAny (model P w) A (do
              let some same := t.sameMemory t.moves t.mask | unsupported "set.changed-during-lookup:is-the-new-block-at-the-old-address"
              let still ← match (if same then t.slot (way t.mask (thash P w k) (c + q)) else .empty) with
                | .live i' => match es[i']? with
                  | some (_, y') => do pure (if ← isSame y' (.ref p.1) then some i' else none)
                  | none => pure none
                | _ => pure none
              match still with
              | none => rule "set.search.anew"; setSearchFrom a (.ref x) (thash P w k) ad f none
              | some i' => if e = true then pure (SetFound.there (some i')) else setSearchFrom a (.ref x) (thash P w k) ad f (some (nth t.mask (go0 t.mask (thash P w k)) (c + (q + 1))))) Q E s := fun e he hf => by
          rw [sameMem]
          dsimp only
          simp only [if_true, slot_live R.tb.up hi, R.row hp]
          refine wpAny_bind (wpAny_isSame_ref_self (wpAny_bind (wpAny_pure ?_)))
          simp only [if_true]
          cases e with
          | true => exact wp_if_pos rfl (he rfl)
          | false => exact wp_if_neg (by decide) (hf rfl)
        by_cases hkk : p.2 = k
        · have there : ∀ o : Option Nat, (ad = false → o.isSome = true) → Q (.there o) s := hin (List.mem_map.mpr ⟨p, hmem, hkk⟩)
          cases ad with
          | true =>
            refine wp_if_pos (by simp [hkk]) ?_
            exact wpAny_pure (there none fun z => nomatch z)
          | false =>
            refine wp_if_neg (by simp) ?_
            try refine wpAny_bind (wpAny_pure ?_)
            rw [decide_eq_true hkk]
            exact live true (fun _ => wpAny_pure (there (some i) fun _ => rfl)) (fun z => nomatch z)
        · refine wp_if_neg (by simp [hkk]) ?_
          try refine wpAny_bind (wpAny_pure ?_)
          rw [decide_eq_false hkk]
          exact live false (fun z => nomatch z) (fun _ => more hkk)
      by_cases hl : t.led = true
      · refine wp_if_neg (by simp [hl]) ?_
        try refine wpAny_bind (wpAny_pure ?_)
        exact rest
      · refine wp_if_pos (by simp [hl]) ?_
        refine wpAny_bind (seen_tup hx (fun y hy => ?_) ?_)
        · obtain ⟨e, he, ee⟩ := List.mem_map.mp hy
          have he2 : e ∈ es.toList := by
            have he1 : e ∈ es ∧ e.1 = thash P w k := by simpa using he
            simpa using he1.1
          rw [R.rw_] at he2
          obtain ⟨p2, hp2, e2⟩ := List.mem_map.mp he2
          exact ⟨p2.2, p2.1, by rw [← ee, ← e2], R.tp p2 hp2⟩
        · refine wp_if_neg (by decide) ?_
          try refine wpAny_bind (wpAny_pure ?_)
          exact rest
    · rw [show t.probe (fun i => (es[i]?.map (·.1)).getD 0) (thash P w k) (stand.getD (t.probeStart (thash P w k))) = _ from (congrArg _ hst).trans hpr, sj, cK]
      dsimp only
      refine wpAny_pure (hout fun hm => ?_)
      obtain ⟨p0, h0, hk0⟩ := List.mem_map.mp hm
      obtain ⟨i0, h00⟩ := List.getElem?_of_mem h0
      obtain ⟨c', a1, a2, a3⟩ := hre i0 p0 h00 hk0
      obtain ⟨b1, b2⟩ := far c' i0 p0 a1 h00 hk0 a3
      exact hno (c' - c) i0 (by omega) b1 b2
theorem search (R : At P w s.heap a L es ep t) {x : Addr} {k : List Int} {ad : Bool} (hx : IsT P w s.heap k x) (hu : A.units < cLine) {Q : SetFound → Shared → Prop}
    (hin : k ∈ L.map (·.2) → ∀ o : Option Nat, (ad = false → o.isSome = true) → Q (.there o) s)
    (hout : ∀ K, k ∉ L.map (·.2) → way t.mask (thash P w k) K ∉ t.place.toList → (∀ c, c < K → way t.mask (thash P w k) c ∈ t.place.toList) → Q (.free (way t.mask (thash P w k) K) false) s) :
    wpAny (model P w) A (setSearch a (.ref x) (thash P w k) ad) Q E s := by
  have hr := R.rm
  obtain ⟨K, hKf, hK, hKb⟩ := R.tb.gap (by rw [List.length_map]; omega) (thash P w k)
  have big : K < 100000 := by
    have : 10 * SetTable.turns t.mask ≤ 20620 := by
      unfold SetTable.turns
      rcases R.tb.ms with e | e | e | e | e <;> omega
    omega
  unfold setSearch
  refine seek R hx hu hKf hK hKb hin (fun z => hout K z hK hKb) 100000 0 none rfl (Nat.zero_le _) (by omega) fun i p hp hk => ?_
  have hi : (L.map fun p => thash P w p.2)[i]? = some (thash P w k) := by rw [List.getElem?_map, hp, ← hk]; rfl
  have hil : i < t.place.toList.length := by rw [R.tb.sz]; exact (List.getElem?_eq_some_iff.mp hi).1
  obtain ⟨c, hc, e⟩ := R.tb.ahead hK hi (List.getElem?_eq_getElem hil)
  exact ⟨c, Nat.zero_le _, hc, by rw [List.getElem?_eq_getElem hil, e]⟩
/-- is the tuple in the set? -/
theorem find (R : At P w s.heap a L es ep t) {x : Addr} {k : List Int} (hx : IsT P w s.heap k x) (hu : A.units < cLine) {Q : Option Nat → Shared → Prop}
    (hQ : ∀ o : Option Nat, o.isSome = decide (k ∈ L.map (·.2)) → Q o s) : wpAny (model P w) A (setFind a (.ref x) (thash P w k)) Q E s := by
  obtain ⟨o, ho, hex, hd⟩ := R.ob
  unfold setFind
  rw [show (100000 : Nat) = 99999 + 1 from rfl]
  unfold setFindIn
  refine wpAny_bind (wpAny_setState_of ho hd R.fits ?_)
  dsimp only
  refine wp_if_neg (by simp [byScan, Value.scannable]) ?_
  try refine wpAny_bind (wpAny_pure ?_)
  refine wpAny_bind (search (ad := false) R hx hu (fun hm o h => ?_) fun K hm _ _ => ?_)
  · dsimp only
    exact wpAny_pure (hQ o (by rw [decide_eq_true hm]; exact h rfl))
  · dsimp only
    exact wpAny_pure (hQ none (by rw [decide_eq_false hm]; rfl))
end
end Bs

namespace Bs
open PySem PySem.Spec PyProof.Rows L2
section
variable {P : Program} {w : World} {A : Around} {E : Value → Shared → Prop} {s : Shared}
variable {a : Addr} {L : List (Addr × List Int)} {es : Array (Int × Value)} {ep : Nat} {t : SetTable}

/-- how large the next table is, and that it has room -/
theorem grows {m n : Nat} (hm : Msk m) (h1 : n * 5 < m * 3) (h2 : (n + 1) * 5 ≥ m * 3) (h3 : n + 1 < 1200) :
    ∃ M, SetTable.sizeAbove (SetTable.grown (n + 1)) - 1 = M ∧ Msk M ∧ SetTable.sizeAbove (SetTable.grown (n + 1)) ≤ 2048 ∧ (n + 1) * 5 < M * 3 ∧ n + 1 ≤ m := by
  have k5 : SetTable.sizeAbove (SetTable.grown 5) = 32 := by decide +kernel
  have k19 : SetTable.sizeAbove (SetTable.grown 19) = 128 := by decide +kernel
  have k77 : SetTable.sizeAbove (SetTable.grown 77) = 512 := by decide +kernel
  have k307 : SetTable.sizeAbove (SetTable.grown 307) = 2048 := by decide +kernel
  rcases hm with e | e | e | e | e <;> subst e
  · obtain rfl : n = 4 := by omega
    exact ⟨31, by rw [k5], .inr (.inl rfl), by rw [k5]; decide, by decide, by decide⟩
  · obtain rfl : n = 18 := by omega
    exact ⟨127, by rw [k19], .inr (.inr (.inl rfl)), by rw [k19]; decide, by decide, by decide⟩
  · obtain rfl : n = 76 := by omega
    exact ⟨511, by rw [k77], .inr (.inr (.inr (.inl rfl))), by rw [k77]; decide, by decide, by decide⟩
  · obtain rfl : n = 306 := by omega
    exact ⟨2047, by rw [k307], .inr (.inr (.inr (.inr rfl))), by rw [k307]; decide, by decide, by decide⟩
  · omega

theorem relay {o : Obj} (ho : s.heap.get? a = some o) (hex : o.ExactSet) (hd : o.data = .set es ep t) (hr : es.toList = rowsOf P w L) (T : Tab t (L.map fun p => thash P w p.2)) (hm : L.length ≤ t.mask)
    (nd : (L.map (·.2)).Nodup) (tp : ∀ p ∈ L, IsT P w s.heap p.2 p.1) (pl : t.plain = true) (ld : w.params.followText "set-order" = true ∨ t.led = true) (fw : L.length < 1200) {wanted M : Nat}
    (hw : SetTable.sizeAbove wanted - 1 = M) (hM : Msk M) (h2 : SetTable.sizeAbove wanted ≤ 2048) (hn : L.length * 5 < M * 3) {Q : Unit → Shared → Prop}
    (hQ : ∀ h' L' es' ep' t', Heap.SameBut a s.heap h' → At P w h' a L' es' ep' t' → L'.Perm L → Q () { s with heap := h' }) : wpAny (model P w) A (setRelay a wanted) Q E s := by
  have hsl := rows_len hr
  obtain ⟨t', order, e, hp, T', em, el, epl⟩ := anew t (hs := es.map (·.1)) hw hM (by rw [Array.size_map, hsl]; omega)
  rw [Array.size_map, hsl] at hp
  obtain ⟨L2, r1, r2, r3⟩ := order_rows L es order hr hp
  rw [← r3] at T'
  have hs2 : (order.filterMap (es[·]?)).size = es.size := by rw [rows_len r1, r2.length_eq, hsl]
  rw [setRelay_eq]
  refine wpAny_bind (wpAny_setState_of ho hd (fits_of T.dm (by rw [T.sz, List.length_map, hsl]) (by rw [hsl]; exact hm)) ?_)
  dsimp only
  refine wp_if_neg (by rw [sizeLine_eq]; omega) ?_
  try refine wpAny_bind (wpAny_pure ?_)
  rw [e]
  dsimp only
  refine wpAny_bind ?_
  refine wp_if_neg (by rw [hs2]; simp) ?_
  try refine wpAny_bind (wpAny_pure ?_)
  refine wpAny_pure ?_
  dsimp only
  refine wpAny_storeSet_of ho hd ?_ (by rw [hs2, hsl, sizeLine_eq]; omega)
  have sb : Heap.SameBut a s.heap (s.heap.update a (Obj.putSet (order.filterMap (es[·]?)) t')) := Heap.SameBut.update ..
  refine hQ _ L2 _ (ep + 1) t' sb ⟨⟨_, store_at ho hd, ⟨hex.1, hex.2.1, hex.2.2⟩, rfl⟩, r1, T', (r2.map (·.2)).nodup_iff.mpr nd, fun p q => isT_same (tp p (r2.mem_iff.mp q)) ho hd sb, by rw [epl]; exact pl, by rw [el]; exact ld, ?_, by rw [r2.length_eq]; exact fw⟩ r2
  rw [r2.length_eq, em]; exact hn

/-- one more, or none where it is there -/
theorem add (R : At P w s.heap a L es ep t) {x : Addr} {k : List Int} (hx : IsT P w s.heap k x) (hu : A.units < cLine) (hf : L.length + 1 < 1200) {Q : Bool → Shared → Prop}
    (hQ : ∀ b h' L' es' ep' t', Heap.SameBut a s.heap h' → At P w h' a L' es' ep' t' → (k ∈ L.map (·.2) → L' = L) → (k ∉ L.map (·.2) → L'.Perm ((x, k) :: L)) → Q b { s with heap := h' }) :
    wpAny (model P w) A (setAddHashed a (.ref x) (thash P w k)) Q E s := by
  obtain ⟨o, ho, hex, hd⟩ := R.ob
  have hrm := R.rm
  unfold setAddHashed
  refine wpAny_holding ?_
  rw [show (100000 : Nat) = 99999 + 1 from rfl, setAddHashedIn_succ]
  refine wpAny_bind (wpAny_setState_of ho hd R.fits ?_)
  dsimp only
  refine wp_if_neg (by simp [byScan, Value.scannable]) ?_
  try refine wpAny_bind (wpAny_pure ?_)
  refine wpAny_bind (search (ad := true) R hx hu (fun hm oo _ => ?_) fun K hm hK hb => ?_)
  · dsimp only
    exact wpAny_pure (hQ false s.heap L es ep t (Heap.SameBut.refl a s.heap) R (fun _ => rfl) fun z => absurd hm z)
  · dsimp only
    refine wpAny_bind (wpAny_setState_of ho hd R.fits ?_)
    dsimp only
    obtain ⟨p, t1, ep1, q2, q3, q4, q5, q6, q9⟩ := R.tb.place hK hb
    rw [ep1]
    have hp1 : t1.plain = true := q6.trans R.pl
    dsimp only
    first
      | (refine wpAny_bind ?_; refine wp_if_pos hp1 ?_; refine hashBy_tup hx ?_)
      | refine wp_if_pos hp1 (wpAny_bind (hashBy_tup hx ?_))
    simp only [if_true]
    have hin : (SetTable.insertAt es p (thash P w k, Value.ref x)).toList = rowsOf P w (L.take p ++ (x, k) :: L.drop p) := by
      rw [SetTable.toList_insertAt, rows_put, R.rw_]
    have pm := put_perm L p (x, k)
    have hhs : (L.take p ++ (x, k) :: L.drop p).map (fun p => thash P w p.2) = (L.map fun p => thash P w p.2).take p ++ thash P w k :: (L.map fun p => thash P w p.2).drop p := by
      rw [List.map_append, List.map_cons, List.map_take, List.map_drop]
    rw [← hhs] at q3
    generalize SetTable.insertAt es p (thash P w k, Value.ref x) = es1 at hin ⊢
    generalize L.take p ++ (x, k) :: L.drop p = L1 at pm q3 hin
    have ln : L1.length = L.length + 1 := pm.length_eq
    have nd1 : (L1.map (·.2)).Nodup := (pm.map (·.2)).nodup_iff.mpr (List.nodup_cons.mpr ⟨hm, R.nd⟩)
    have n1 : es1.size = L.length + 1 := (rows_len hin).trans ln
    refine wpAny_bind (wpAny_storeSet_of ho hd ?_ (by rw [n1, sizeLine_eq]; omega))
    have sb : Heap.SameBut a s.heap (s.heap.update a (Obj.putSet es1 t1)) := Heap.SameBut.update ..
    have ho1 := store_at (es' := es1) (t' := t1) ho hd
    generalize s.heap.update a (Obj.putSet es1 t1) = h1 at sb ho1 ⊢
    have tp1 : ∀ p ∈ L1, IsT P w h1 p.2 p.1 := fun p hp => by
      rcases List.mem_cons.mp (pm.mem_iff.mp hp) with e | hp
      · rw [e]; exact isT_same hx ho hd sb
      · exact isT_same (R.tp p hp) ho hd sb
    have ld1 : w.params.followText "set-order" = true ∨ t1.led = true := by rw [q5]; exact R.ld
    have full : t1.tooFull = decide ((L.length + 1) * 5 ≥ t.mask * 3) := by
      unfold SetTable.tooFull
      rw [q9, q4, List.length_map]
    by_cases hfu : t1.tooFull = true
    · first
        | (refine wpAny_bind ?_; refine wp_if_pos (by simp [hfu]) ?_)
        | (refine wp_if_pos (by simp [hfu]) ?_; refine wpAny_bind ?_)
      rw [full, decide_eq_true_eq] at hfu
      obtain ⟨M, g1, g2, g3, g4, g5⟩ := grows R.tb.ms hrm hfu hf
      rw [R.n]
      refine relay (s := { s with heap := h1 }) ho1 ⟨hex.1, hex.2.1, hex.2.2⟩ rfl hin q3 (by rw [ln, q4]; exact g5) nd1 tp1 hp1 ld1 (by rw [ln]; exact hf) g1 g2 g3 (by rw [ln]; exact g4) ?_
      intro h2 L2 es2 ep2 t2 sb2 R2 pm2
      exact wpAny_pure (hQ true h2 L2 es2 ep2 t2 (sb.trans sb2) R2 (fun z => absurd z hm) fun _ => pm2.trans pm)
    · first
        | refine wp_if_neg (by simp [hfu]) ?_
        | (refine wpAny_bind ?_; refine wp_if_neg (by simp [hfu]) ?_; refine wpAny_pure ?_)
      refine wpAny_pure (hQ true h1 L1 es1 (ep + 1) t1 sb ⟨⟨_, ho1, ⟨hex.1, hex.2.1, hex.2.2⟩, rfl⟩, hin, q3, nd1, tp1, hp1, ld1, ?_, by rw [ln]; exact hf⟩ (fun z => absurd z hm) fun _ => pm)
      rw [full, decide_eq_true_eq] at hfu
      rw [ln, q4]; omega
theorem fresh {h : Heap} {b : Addr} (ho : h.get? b = some { cls := .type "set", dict := none, data := .set #[] 0 (.fresh 0 0 (!w.params.followText "set-order")) }) : At P w h b [] #[] 0 (.fresh 0 0 (!w.params.followText "set-order")) := by
  refine ⟨⟨_, ho, ⟨rfl, rfl, rfl⟩, rfl⟩, rfl, ⟨List.Pairwise.nil, rfl, rfl, .inl rfl, fun x hx => (by cases hx), fun i x j hi => (by simp at hi)⟩, List.nodup_nil, fun p hp => (by cases hp), rfl, ?_, (by show 0 * 5 < 7 * 3; decide), (by show 0 < 1200; decide)⟩
  show _ ∨ (!w.params.followText "set-order") = true
  cases w.params.followText "set-order"
  · exact .inr rfl
  · exact .inl rfl

/-! ### sorted(s), the members pairs -/
theorem sorted_pairs (R : At P w s.heap a L es ep t) (hh : A.handled = none) (h2 : ∀ p ∈ L, ∃ i j, p.2 = [i, j]) {Q : Value → Shared → Prop}
    (hQ : ∀ s' p (out : Array Value) (c : Nat) (L' : List (Addr × List Int)), (∀ b o, s.heap.get? b = some o → s'.heap.get? b = some o) → s'.gens = s.gens → s'.os = s.os → s.heap.objs.size ≤ p →
      s'.heap.get? p = some (seqObj "list" out c) → out.toList = L'.map (fun q => Value.ref q.1) → L'.Perm L →
      L'.Pairwise (fun q r => SrtO.lexB (r.2.headD 0, r.2.getD 1 0) (q.2.headD 0, q.2.getD 1 0) = false) → Q (.ref p) s') :
    wpAny (model P w) A (call (.builtin "sorted") [.ref a]) Q E s := by
  obtain ⟨o, ho, hex, hd⟩ := R.ob
  have hsz := R.n
  have hfw := R.fw
  refine Calls.call_function_entry kind_sorted plain_sorted entry_sorted (args_sorted1 _) ?_
  unfold Builtin.«sorted»
  refine wpAny_bind (m := checkCount "sorted" 1 1 _) (wpAny_pure ?_)
  refine wpAny_bind (collect_set (A := A.in1) hh ⟨o, ho, hex.1, hd⟩ R.fits (by unfold scanBound; omega) R.tb.up R.ld fun s1 vs k1 hz g1 o1 pm => ?_)
  have hes : es.toList.map (·.2) = L.map fun q => Value.ref q.1 := by
    rw [R.rw_]
    exact List.map_map
  rw [hes] at pm
  -- an address has one key
  have one : ∀ q ∈ L, ∀ r ∈ L, q.1 = r.1 → q = r := fun q hq r hr e => by
    have a1 := R.tp q hq
    rw [e] at a1
    exact Prod.ext e (a1.inj (R.tp r hr))
  -- the key of a value
  let key : Value → Int × Int := fun v => match L.find? (fun q => decide (Value.ref q.1 = v)) with
    | some q => (q.2.headD 0, q.2.getD 1 0)
    | none => (0, 0)
  have hkey : ∀ q ∈ L, key (.ref q.1) = (q.2.headD 0, q.2.getD 1 0) := fun q hq => by
    show (match L.find? (fun r => decide (Value.ref r.1 = Value.ref q.1)) with
      | some q => (q.2.headD 0, q.2.getD 1 0)
      | none => ((0 : Int), (0 : Int))) = _
    cases hf : L.find? (fun r => decide (Value.ref r.1 = Value.ref q.1)) with
    | none => exact absurd (decide_eq_true rfl) (List.find?_eq_none.mp hf q hq)
    | some r =>
      have e0 := List.find?_some hf
      have e1 : Value.ref r.1 = Value.ref q.1 := of_decide_eq_true (by simpa using e0)
      injection e1 with e1
      rw [one r (List.mem_of_find?_eq_some hf) q hq e1]
  have hvl : vs.length ≤ sizeLine := by rw [pm.length_eq, List.length_map, sizeLine_eq]; omega
  refine wpAny_bind (wpAny_newList ?_ hvl)
  have hoL : (s1.heap.push (seqObj "list" vs.toArray 0)).get? s1.heap.objs.size = some (seqObj "list" vs.toArray 0) := Heap.get?_push_size _ rfl
  have pr : ∀ v ∈ vs, Srt.IsPair (s1.heap.push (seqObj "list" vs.toArray 0)) v (key v).1 (key v).2 := fun v hv => by
    obtain ⟨q, hq, rfl⟩ := List.mem_map.mp (pm.mem_iff.mp hv)
    rw [hkey q hq]
    obtain ⟨i, j, eij⟩ := h2 q hq
    have it : IsT P w (s1.heap.push (seqObj "list" vs.toArray 0)) q.2 q.1 := isT_keep (R.tp q hq) fun b u e => Heap.get?_push_of_some _ (k1 b u e)
    rw [eij] at it ⊢
    obtain ⟨ob, items, n, h1, h3, h4, h5⟩ := it
    have hI := ints_of_items (P := P) (w := w) h5
    obtain ⟨ls, hls⟩ : ∃ ls, ls = items.toList := ⟨_, rfl⟩
    rw [← hls] at hI
    cases hI with
    | cons _ t1 r1 =>
      cases r1 with
      | cons _ t2 r2 =>
        cases r2
        have hit : items = #[.int i t1, .int j t2] := by
          rw [← Array.toArray_toList (xs := items), ← hls]
        exact ⟨q.1, ob, t1, t2, n, rfl, h1, h3, by rw [h4, hit]; rfl⟩
  have ncls : ∀ u, (s1.heap.push (seqObj "list" vs.toArray 0)).get? s1.heap.objs.size = some u → u.cls ≠ .type "tuple" := fun u e c => by
    rw [hoL] at e
    cases e
    exact absurd (Value.type.inj c) (by decide)
  refine wpAny_bind (wpAny_holding (wpAny_call_entry slot_list_sort ⟨_, hoL, rfl⟩ entry_list_sort
    (SrtO.list_sort_ord (s := { s1 with heap := s1.heap.push (seqObj "list" vs.toArray 0) }) (SrtO.swo_lex key) hoL hvl (fun z => SrtO.pairs_sortableO (by omega) pr ncls) fun out o1' o2' => ⟨_, rfl, ?_⟩) (args_list_sort _)))
  obtain ⟨c, hc⟩ := sortedHeap_at (vs := vs) (out := out.toArray) hoL
  have hm : ∀ v ∈ out, ∃ q ∈ L, v = Value.ref q.1 := fun v hv => by
    obtain ⟨q, hq, e⟩ := List.mem_map.mp (pm.mem_iff.mp (o2'.perm.mem_iff.mp hv))
    exact ⟨q, hq, e.symm⟩
  have ord : ∀ us : List Value, (∀ v ∈ us, ∃ q ∈ L, v = Value.ref q.1) → ∃ L1 : List (Addr × List Int), us = L1.map (fun q => Value.ref q.1) ∧ ∀ q ∈ L1, q ∈ L := fun us => by
    induction us with
    | nil => exact fun _ => ⟨[], rfl, fun q hq => (by cases hq)⟩
    | cons v us ih =>
      intro hv
      obtain ⟨q, hq, e⟩ := hv v List.mem_cons_self
      obtain ⟨L1, e1, hs⟩ := ih fun u hu => hv u (List.mem_cons_of_mem _ hu)
      exact ⟨q :: L1, by rw [List.map_cons, e, e1], fun r hr => by
        rcases List.mem_cons.mp hr with z | z
        · exact z ▸ hq
        · exact hs r z⟩
  obtain ⟨L', e', hs'⟩ := ord out hm
  have inj : ∀ q ∈ L', ∀ r ∈ L', Value.ref q.1 = Value.ref r.1 → q = r := fun q hq r hr e => by
    injection e with e
    exact one q (hs' q hq) r (hs' r hr) e
  have pL : L'.Perm L := by
    have p1 : (L'.map fun q => Value.ref q.1).Perm (L.map fun q => Value.ref q.1) := by rw [← e']; exact o2'.perm.trans pm
    have nL : L.Nodup := nodup_of_map R.nd
    have nr : (L.map fun q => Value.ref q.1).Nodup := List.pairwise_map.mpr (List.Pairwise.imp_of_mem (fun {q r} hq hr hne e => by
      injection e with e
      exact hne (one q hq r hr e)) nL)
    have n1 : L'.Nodup := nodup_of_map (p1.nodup_iff.mpr nr)
    refine (List.perm_ext_iff_of_nodup n1 nL).mpr fun q => ⟨hs' q, fun hq => ?_⟩
    obtain ⟨r, hr, e⟩ := List.mem_map.mp (p1.mem_iff.mpr (List.mem_map.mpr ⟨q, hq, rfl⟩))
    injection e with e
    exact one r (hs' r hr) q hq e ▸ hr
  refine wpAny_pure ⟨_, rfl, hQ _ s1.heap.objs.size out.toArray c L' (fun b u e => ?_) g1 o1 hz hc e' pL ?_⟩
  · have q := k1 b u e
    have hlt := Heap.lt_size q
    show (sortedHeap (s1.heap.push (seqObj "list" vs.toArray 0)) s1.heap.objs.size vs out.toArray).get? b = some u
    rw [sortedHeap_old (Nat.ne_of_lt hlt) (by rw [size_push']; exact Nat.lt_succ_of_lt hlt)]
    exact Heap.get?_push_of_some _ q
  · rw [e'] at o1'
    refine List.Pairwise.imp_of_mem (fun {q r} hq hr h => ?_) (List.pairwise_map.mp o1')
    rw [← hkey q (hs' q hq), ← hkey r (hs' r hr)]
    exact h
end
end Bs

namespace Bs
open PySem PySem.Spec PyProof.Rows L2
/-- the set at a, its members' ints told by L; that the tuples stand is told by the heap -/
def Set0 (P : Program) (w : World) (h : Heap) (a : Addr) (L : List (Addr × List Int)) : Prop :=
  ∃ es ep t, (∃ o, h.get? a = some o ∧ o.ExactSet ∧ o.data = .set es ep t) ∧ es.toList = rowsOf P w L ∧ Tab t (L.map fun p => thash P w p.2) ∧ (L.map (·.2)).Nodup ∧ t.plain = true ∧
    (w.params.followText "set-order" = true ∨ t.led = true) ∧ L.length * 5 < t.mask * 3 ∧ L.length < 1200
def SO (P : Program) (w : World) (a : Addr) (L : List (Addr × List Int)) : HO := .ext fun h => Set0 P w h a L
theorem At.set0 {P : Program} {w : World} {h : Heap} {a : Addr} {L : List (Addr × List Int)} {es : Array (Int × Value)} {ep : Nat} {t : SetTable} (R : At P w h a L es ep t) : Set0 P w h a L :=
  ⟨es, ep, t, R.ob, R.rw_, R.tb, R.nd, R.pl, R.ld, R.rm, R.fw⟩
theorem Set0.at {P : Program} {w : World} {h : Heap} {a : Addr} {L : List (Addr × List Int)} (R : Set0 P w h a L) (ht : ∀ p ∈ L, IsT P w h p.2 p.1) : ∃ es ep t, At P w h a L es ep t := by
  obtain ⟨es, ep, t, h1, h2, h3, h4, h5, h6, h7, h8⟩ := R
  exact ⟨es, ep, t, h1, h2, h3, h4, ht, h5, h6, h7, h8⟩
theorem so_ok {P : Program} {w : World} {H : Hp} {h : Heap} {a : Addr} {L : List (Addr × List Int)} (R : Set0 P w h a L) : ObjOk P w H h a (SO P w a L) := by
  have ⟨es, ep, t, ⟨o, ho, r⟩, q⟩ := R
  refine ⟨R, ⟨o, ho⟩, fun h1 h2 p k => ?_⟩
  obtain ⟨es', ep', t', ⟨o', ho', r'⟩, q'⟩ := p
  exact ⟨es', ep', t', ⟨o', k o' ho', r'⟩, q'⟩
theorem Set0.type {P : Program} {w : World} {s : Shared} {a : Addr} {L : List (Addr × List Int)} (R : Set0 P w s.heap a L) : s.TypeIs (.ref a) "set" ∧ ∀ b, Value.ref a = .ref b → ∃ ob, s.heap.get? b = some ob ∧ ob.dict = none := by
  obtain ⟨es, ep, t, ⟨o, ho, hx, hd⟩, _⟩ := R
  exact ⟨⟨o, ho, hx.1⟩, fun b e => by cases e; exact ⟨o, ho, hx.2.1⟩⟩
/-- all members stand as tuples -/
def Tups (K : PySem.W.Frag) (H : Hp) (L : List (Addr × List Int)) : Prop := ∀ p ∈ L, SqT K H p.1 (p.2.map V.int)
section
variable {X : Cx}
theorem isTs {pins : List (Addr × Obj)} {σ : L2.St} {H : Hp} {s : Shared} {L : List (Addr × List Int)} (I : Inv X pins σ H s) (h : Tups X.K H L) : ∀ p ∈ L, IsT X.prog X.w s.heap p.2 p.1 := fun p hp => Inv.isT I (h p hp)
/-- set() -/
def rNew (P : Program) (w : World) : List V → Hp → VK → Prop := fun xs H Q => xs = [] ∧ ∀ p, H p = none → Q (.ref p) (upd H p (SO P w p []))
theorem cr_new : CallR X (.type "set") (rNew X.prog X.w) := by
  intro pins s σ H xs us Q I r h
  obtain ⟨rfl, q⟩ := h
  cases r
  refine setR_new fun new => ?_
  exact ⟨.ref _, upd H s.heap.objs.size (SO X.prog X.w s.heap.objs.size []), I.laid (t' := s.toks) (fun b u e => Heap.get?_push_of_some _ e) (Nat.le_refl _) (so_ok (fresh (Heap.get?_push_size _ rfl)).set0), rfl, q _ (I.hok.fresh (Nat.le_refl _))⟩
/-- (i, j) in s -/
def rIn (K : PySem.W.Frag) (P : Program) (w : World) (neg : Bool) : V → V → Hp → VK → Prop := fun x y H Q => ∃ (b : Addr) (k : List Int) (a : Addr) (L : List (Addr × List Int)), x = .ref b ∧ y = .ref a ∧ SqT K H b (k.map V.int) ∧ H a = some (SO P w a L) ∧ Tups K H L ∧
  Q (.bl (xor neg (decide (k ∈ L.map (·.2))))) H
theorem contains_at {s : Shared} {a b : Addr} {k : List Int} {L : List (Addr × List Int)} {A : Around} {E : Value → Shared → Prop} {Q : Bool → Shared → Prop} (hu : A.units + 64 < cLine)
    (R : Set0 X.prog X.w s.heap a L) (hL : ∀ p ∈ L, IsT X.prog X.w s.heap p.2 p.1) (hk : IsT X.prog X.w s.heap k b)
    (h : ∀ t', Q (decide (k ∈ L.map (·.2))) { s with toks := t' }) : wpAny (model X.prog X.w) A (contains (.ref a) (.ref b)) Q E s := by
  have hT := R.type.1
  unfold contains
  try with_reducible refine wpAny_holding ?_
  refine wpAny_bind (wpAny_specialOf hT F.slot_set_contains.lookup ?_)
  show wpAny _ _ (if (some (Value.builtin "set.__contains__") == some Value.none) = true then _ else _) _ E s
  rw [if_neg (by rw [beq_builtin_none]; exact Bool.false_ne_true)]
  refine wpAny_bind (wpAny_callSpecialUnlessNone?_slot (name := Str.ofString "__contains__") hT F.slot_set_contains
    (wpAny_call_entry F.slot_set_contains hT entry_set_contains ?_ (F.args_set_contains_2 _ _)))
  unfold Builtin.«frozenset.__contains__» Builtin.Frozenset.oneOther
  simp only [List.isEmpty_nil, bind_assoc]
  unfold Builtin.Frozenset.addrOf Builtin.Frozenset.withSetAsKey setContains
  refine wpAny_bind (wpAny_pure ?_)
  try dsimp only
  refine wpAny_bind (wpAny_pure ?_)
  try dsimp only
  refine wpAny_bind (wpAny_tryCatch ?_)
  refine wpAny_holding ?_
  refine wpAny_bind (wpAny_pyHash_tuple (knd := intKind X.prog X.w) ?_ hk ?_)
  · exact Nat.lt_of_le_of_lt (Nat.add_le_add_left (by decide) _) hu
  · obtain ⟨es, ep, t, R1⟩ := Set0.at R hL
    refine wpAny_bind (find (s := { s with toks := s.toks + (k.length + 1) }) R1 hk ?_ fun r hr => ?_)
    · exact Nat.lt_of_le_of_lt (Nat.add_le_add_left (by decide) _) hu
    · refine wpAny_pure ?_
      show wpAny _ _ (ret (Value.bool r.isSome)) _ _ _
      rw [hr]
      exact wpAny_pure ⟨_, rfl, wpAny_truthy_bool (h _)⟩
theorem or_in (hu : X.A.units + 64 < cLine) : OpR X (compareOp .In) (rIn X.K X.prog X.w false) := by
  intro pins s σ H x y v u Q I rx ry h
  obtain ⟨b, k, a, L, rfl, rfl, hb, ha, hL, q⟩ := h
  cases rx; cases ry
  show wpAny _ _ (do return Value.bool (← contains (.ref a) (.ref b))) _ _ s
  refine wpAny_bind (contains_at (X := X) hu (I.hok a _ ha).1 (isTs I hL) (Inv.isT I hb) fun t' => wpAny_pure ?_)
  rw [Bool.false_xor] at q
  exact ⟨.bl (decide (k ∈ L.map fun p : Addr × List Int => p.2)), H, I.tok _, rfl, q⟩
theorem or_notin (hu : X.A.units + 64 < cLine) : OpR X (compareOp .NotIn) (rIn X.K X.prog X.w true) := by
  intro pins s σ H x y v u Q I rx ry h
  obtain ⟨b, k, a, L, rfl, rfl, hb, ha, hL, q⟩ := h
  cases rx; cases ry
  show wpAny _ _ (do return Value.bool (!(← contains (.ref a) (.ref b)))) _ _ s
  refine wpAny_bind (contains_at (X := X) hu (I.hok a _ ha).1 (isTs I hL) (Inv.isT I hb) fun t' => wpAny_pure ?_)
  rw [Bool.true_xor] at q
  exact ⟨.bl (!decide (k ∈ L.map fun p : Addr × List Int => p.2)), H, I.tok _, rfl, q⟩
/-- s.add((i, j)) -/
def rAdd (K : PySem.W.Frag) (P : Program) (w : World) : V → List V → Hp → VK → Prop := fun x xs H Q => ∃ (a b : Addr) (k : List Int) (L : List (Addr × List Int)), x = V.ref a ∧ xs = [V.ref b] ∧ H a = some (SO P w a L) ∧ SqT K H b (k.map V.int) ∧ Tups K H L ∧ L.length + 1 < 1200 ∧
  ∀ L', (k ∈ L.map (·.2) → L' = L) → (k ∉ L.map (·.2) → L'.Perm ((b, k) :: L)) → Q .non (upd H a (SO P w a L'))
theorem mt_add (hu : X.A.units + 64 < cLine) : MtR X "set.add" (rAdd X.K X.prog X.w) := by
  intro pins s σ H x xs v us Q I rx rxs h
  obtain ⟨a, b, k, L, rfl, rfl, ha, hb, hL, room, q⟩ := h
  cases rx
  cases rxs with
  | cons ry rt =>
    cases rt; cases ry
    have R0 : Set0 X.prog X.w s.heap a L := (I.hok a _ ha).1
    have hT := R0.type.1
    obtain ⟨es, ep, t, R⟩ := R0.at (isTs I hL)
    have hk := Inv.isT I hb
    refine wpAny_call_entry F.slot_set_add hT F.entry_set_add ?_ (F.args_set_add_2 _ _)
    unfold Builtin.«set.add» Builtin.Frozenset.oneOther
    simp only [List.isEmpty_nil, bind_assoc]
    unfold Builtin.Frozenset.addrOf setAdd
    refine wpAny_bind (wpAny_pure ?_)
    try dsimp only
    refine wpAny_bind (wpAny_pure ?_)
    try dsimp only
    refine wpAny_bind ?_
    refine wpAny_holding ?_
    refine wpAny_bind (wpAny_pyHash_tuple (knd := intKind X.prog X.w) (Nat.lt_of_le_of_lt (Nat.add_le_add_left (by decide) _) hu) hk ?_)
    refine add (s := { s with toks := s.toks + (k.length + 1) }) R hk (Nat.lt_of_le_of_lt (Nat.add_le_add_left (by decide) _) hu) room fun bb h' L' es' ep' t' sb R' c1 c2 => ?_
    show wpAny _ _ (ret Value.none) _ _ _
    have he : ∃ u, h'.get? a = some u := by
      obtain ⟨o, ho, _⟩ := R'.ob
      exact ⟨o, ho⟩
    exact wpAny_pure ⟨_, rfl, .non, upd H a (SO X.prog X.w a L'), I.write (e := a) (t' := s.toks + (k.length + 1)) (by rw [ha]; trivial) (.inl rfl) (fun b u hb hu => (sb.2 b hb).trans hu) he (so_ok R'.set0), rfl, q L' c1 c2⟩
def tAdd (K : PySem.W.Frag) (P : Program) (w : World) (to : TE) (t : TA) : TE := fun σ H Q => to σ H fun x H1 => (∃ a L, x = V.ref a ∧ H1 a = some (SO P w a L)) ∧ t σ H1 fun xs H2 => rAdd K P w x xs H2 Q
variable {o e : Expr} {es : List Expr} {to : TE} {t : TA} {apos cpos : Pos}
theorem pe_add (hu : X.A.units + 64 < cLine) (ho : PE X o to) (ha : PA X (e :: es) t)
    (hbase : attributeBase o "add" X.env (eval o X.env) = eval o X.env := by rfl)
    (hfew : ((backTo cpos (starEach (e :: es) X.env)).all (fun x => !x.1) && (backToKw cpos (keywordEach [] X.env)).all (fun x => x.1.isSome)
      && decide ((e :: es).length + ([] : List Keyword).length + (if ([] : List Keyword).isEmpty then 0 else 1) < 30)) = true := by rfl)
    (hline : (apos.endLine == cpos.line) = true := by rfl) (hs : starEach (e :: es) X.env = (false, eval e X.env) :: starEach es X.env := by rfl) (hplain : (backTo cpos (starEach es X.env)).any (·.1) = false := by rfl) :
    PE X (.Call (.Attribute o "add" apos) (e :: es) [] cpos) (tAdd X.K X.prog X.w to t) := by
  refine ⟨fun pins s σ H Q I h => ?_⟩
  refine wpAny_Call_method_late hbase hfew hline rfl (thn (ho.run pins s σ H _ I h) fun v s1 ⟨x, H1, I1, r1, ty, q1⟩ => ?_)
  obtain ⟨a, L, rfl, hka⟩ := ty
  have R : Set0 X.prog X.w s1.heap a L := (I1.hok a _ hka).1
  cases r1
  refine ⟨"set", "set.add", F.plainAttrs_set, F.slot_set_add, F.type_set_add, R.type.1, R.type.2, ?_⟩
  have hA := ha.run cpos pins s1 σ H1 _ I1 q1
  rw [hs] at hA ⊢
  refine Calls.callWith_builtin (by show (false || (backTo cpos (starEach es X.env)).any (·.1)) = false; rw [hplain]; rfl) (Calls.evalArgs_plain ?_)
  exact thn hA fun us s2 ⟨vs, H2, I2, r2, q2⟩ => mt_add hu pins s2 σ H2 (.ref a) vs (.ref a) us Q I2 rfl r2 q2
/-- sorted(s), its members pairs -/
def ltK (q r : Addr × List Int) : Bool := SrtO.lexB (q.2.headD 0, q.2.getD 1 0) (r.2.headD 0, r.2.getD 1 0)
def rSorted (K : PySem.W.Frag) (P : Program) (w : World) : List V → Hp → VK → Prop := fun vs H Q => ∃ (a : Addr) (L : List (Addr × List Int)), vs = [V.ref a] ∧ H a = some (SO P w a L) ∧ Tups K H L ∧ (∀ p ∈ L, ∃ i j, p.2 = [i, j]) ∧
  ∀ (L' : List (Addr × List Int)) (p : Addr), L'.Perm L → (L'.map (·.2)).Nodup → L'.Pairwise (fun q r => ltK r q = false) → H p = none → Q (.ref p) (upd H p (.lst (L'.map fun q => V.ref q.1)))
theorem cr_sorted (hc : X.calm = true) : CallR X (.builtin "sorted") (rSorted X.K X.prog X.w) := by
  intro pins s σ H vs us Q I r h
  obtain ⟨a, L, rfl, ha, hL, h2, q⟩ := h
  obtain ⟨es, ep, t, R⟩ := Set0.at (I.hok a _ ha).1 (isTs I hL)
  rw [Vals.ref1 r]
  refine sorted_pairs R (I.ok.hd hc) h2 fun s' p out c L' k g o hp hg hout pm pw => ?_
  have hlen : (L'.map fun q => V.ref q.1).length ≤ sizeLine := by
    have := R.fw
    rw [List.length_map, sizeLine_eq, pm.length_eq]; omega
  have hn : H p = none := I.hok.fresh hp
  have hv : Vals (L'.map fun q => V.ref q.1) out.toList := by rw [hout]; exact vals_of_refs L'
  have J : Inv X pins σ (upd H p (.lst (L'.map fun q => V.ref q.1))) { s with heap := s'.heap, gens := s'.gens, drawn := s'.drawn, toks := s'.toks } :=
    I.call (ch := []) (Un.laid k hp hn) (I.hok.laid k hp ⟨hlen, out.toList, c, hv, hg⟩) (by rw [g]; exact I.bare) (fun _ z => nomatch z)
  have e : s' = { s with heap := s'.heap, gens := s'.gens, drawn := s'.drawn, toks := s'.toks } := by
    cases s'; cases s; cases o; rfl
  rw [e]
  exact ⟨.ref p, _, J, rfl, q L' p pm ((pm.map (·.2)).nodup_iff.mpr R.nd) pw hn⟩
end
end Bs

/-! Short words over the layer: defs by name, calls by name, errors asked in a callee. -/
namespace Fd
open PySem PySem.Spec PyProof.Rows L2

/-- a def of the top -/
def Def (K : PySem.W.Frag) (mg : Str → Option Value) (x : Str) (st : Stmt) (ps : List Str) : Prop := ∃ f fd, mg x = some (.ref f) ∧ Fun K x x st f fd ∧ Binds K fd ps []
/-- it keeps its promise -/
def Has (P : Program) (w : World) (K : PySem.W.Frag) (mg : Str → Option Value) (base : Heap) (CX : CXT) (k : Nat) (x : Str) (ps : List Str) (sp : Sp) : Prop :=
  ∃ f fd, mg x = some (.ref f) ∧ PySem.W.keepIn K (.ref f) = true ∧ Binds K fd ps [] ∧ FnOk P w K mg base CX k f fd ps sp
/-- a method of the class at C -/
def MDef (K : PySem.W.Frag) (C : Addr) (m qual : Str) (st : Stmt) (ps : List Str) : Prop := ∃ f fd, Meth K C m f ∧ Fun K m qual st f fd ∧ Binds K fd ps []
def MHas (P : Program) (w : World) (K : PySem.W.Frag) (mg : Str → Option Value) (base : Heap) (CX : CXT) (k : Nat) (C : Addr) (m : Str) (ps : List Str) (sp : Sp) : Prop :=
  ∃ f fd, Meth K C m f ∧ Binds K fd ps [] ∧ FnOk P w K mg base CX k f fd ps sp
/-- a class made by its __init__ -/
def IDef (K : PySem.W.Frag) (C : Addr) (qual : Str) (st : Stmt) (ps : List Str) : Prop := ∃ f fd, Mk K C f ∧ Fun K "__init__" qual st f fd ∧ Binds K fd ps []
def IHas (P : Program) (w : World) (K : PySem.W.Frag) (mg : Str → Option Value) (base : Heap) (CX : CXT) (k : Nat) (C : Addr) (ps : List Str) (sp : Sp) : Prop :=
  ∃ f fd, Mk K C f ∧ Binds K fd ps [] ∧ FnOk P w K mg base CX k f fd ps sp
/-- a def for calls within an except suite -/
def HHas (P : Program) (w : World) (K : PySem.W.Frag) (mg : Str → Option Value) (base : Heap) (CX : CXT) (k : Nat) (x : Str) (ps : List Str) (sp : Sp) : Prop :=
  ∃ f fd, mg x = some (.ref f) ∧ PySem.W.keepIn K (.ref f) = true ∧ Binds K fd ps [] ∧ L2H.FnH P w K mg base CX k f fd ps sp
section
variable {P : Program} {w : World} {K : PySem.W.Frag} {mg : Str → Option Value} {base : Heap} {CX : CXT} {j k : Nat} {x m qual : Str} {st : Stmt} {ps N : List Str} {sp : Sp} {C : Addr}
theorem Has.mono (h : Has P w K mg base CX j x ps sp) (q : j ≤ k) : Has P w K mg base CX k x ps sp := by
  obtain ⟨f, fd, a, b, c, d⟩ := h
  exact ⟨f, fd, a, b, c, d.mono q⟩
/-- a def that lets nothing out -/
theorem Def.ok (D : Def K mg x st ps) (S : FnScope N ps (defScope st)) (len : ∀ vs H Q E, sp vs H Q E → vs.length = ps.length)
    (body : ∀ (f : Addr) (cdv : Value) (A : Around) (outer : List Env) (s : Shared) (H : Hp) (vs : List V) (Q : VK) (E : XK), Room k (A.deeper (envOfC x (defScope st) s.heap.objs.size f cdv)) → sp vs H Q E →
      ∃ t, PSs (cxOf CX0 P w K mg base N x (defScope st) f cdv A outer s H E).nox (defBody st) t ∧ t { nx := fun _ H' => Q .non H', rt := Q } (start N vs) H) : Has P w K mg base CX0 (k + 1) x ps sp := by
  obtain ⟨f, fd, a, F, b⟩ := D
  exact ⟨f, fd, a, F.kp, b, F.ok S len (body f)⟩
/-- a def that may raise -/
theorem Def.okN (D : Def K mg x st ps) (S : FnScope N ps (defScope st)) (len : ∀ vs H Q E, sp vs H Q E → vs.length = ps.length)
    (body : ∀ (f : Addr) (cdv : Value) (A : Around) (outer : List Env) (s : Shared) (H : Hp) (vs : List V) (Q : VK) (E : XK), Room k (A.deeper (envOfC x (defScope st) s.heap.objs.size f cdv)) → sp vs H Q E →
      ∃ t, PSs (cxOf (L2N.CX P w) P w K mg base N x (defScope st) f cdv A outer s H E) (defBody st) t ∧ t { nx := fun _ H' => Q .non H', rt := Q } (start N vs) H) : Has P w K mg base (L2N.CX P w) (k + 1) x ps sp := by
  obtain ⟨f, fd, a, F, b⟩ := D
  refine ⟨f, fd, a, F.kp, b, ?_⟩
  obtain ⟨oc, od, kV, doc, pm, an, cdv, ct, osl, rfl, lk, hcd⟩ := F.ex
  exact fn_of lk hcd S len fun A outer s H vs Q E hr hsp => body f cdv A outer s H vs Q E hr hsp
theorem Def.okH (D : Def K mg x st ps) (S : FnScope N ps (defScope st)) (len : ∀ vs H Q E, sp vs H Q E → vs.length = ps.length)
    (body : ∀ (f : Addr) (cdv : Value) (A : Around) (outer : List Env) (s : Shared) (H : Hp) (vs : List V) (Q : VK) (E : XK) (p : Addr × Obj), L2H.Hot1 A p → L2H.RoomH k (A.deeper (envOfC x (defScope st) s.heap.objs.size f cdv)) → sp vs H Q E →
      ∃ t, PSs (L2H.cxH CX P w K mg base N x (defScope st) f cdv A outer s H E p) (defBody st) t ∧ t { nx := fun _ H' => Q .non H', rt := Q } (start N vs) H) : HHas P w K mg base CX (k + 1) x ps sp := by
  obtain ⟨f, fd, a, F, b⟩ := D
  refine ⟨f, fd, a, F.kp, b, ?_⟩
  obtain ⟨oc, od, kV, doc, pm, an, cdv, ct, osl, rfl, lk, hcd⟩ := F.ex
  exact L2H.fn_ofH lk hcd S len fun A outer s H vs Q E p hot hr hsp => body f cdv A outer s H vs Q E p hot hr hsp
theorem MDef.ok (D : MDef K C m qual st ps) (S : FnScope N ps (defScope st)) (len : ∀ vs H Q E, sp vs H Q E → vs.length = ps.length)
    (body : ∀ (f : Addr) (cdv : Value) (A : Around) (outer : List Env) (s : Shared) (H : Hp) (vs : List V) (Q : VK) (E : XK), Room k (A.deeper (envOfC qual (defScope st) s.heap.objs.size f cdv)) → sp vs H Q E →
      ∃ t, PSs (cxOf CX0 P w K mg base N qual (defScope st) f cdv A outer s H E).nox (defBody st) t ∧ t { nx := fun _ H' => Q .non H', rt := Q } (start N vs) H) : MHas P w K mg base CX0 (k + 1) C m ps sp := by
  obtain ⟨f, fd, M, F, b⟩ := D
  exact ⟨f, fd, M, b, F.ok S len (body f)⟩
theorem MDef.okN (D : MDef K C m qual st ps) (S : FnScope N ps (defScope st)) (len : ∀ vs H Q E, sp vs H Q E → vs.length = ps.length)
    (body : ∀ (f : Addr) (cdv : Value) (A : Around) (outer : List Env) (s : Shared) (H : Hp) (vs : List V) (Q : VK) (E : XK), Room k (A.deeper (envOfC qual (defScope st) s.heap.objs.size f cdv)) → sp vs H Q E →
      ∃ t, PSs (cxOf (L2N.CX P w) P w K mg base N qual (defScope st) f cdv A outer s H E) (defBody st) t ∧ t { nx := fun _ H' => Q .non H', rt := Q } (start N vs) H) : MHas P w K mg base (L2N.CX P w) (k + 1) C m ps sp := by
  obtain ⟨f, fd, M, F, b⟩ := D
  refine ⟨f, fd, M, b, ?_⟩
  obtain ⟨oc, od, kV, doc, pm, an, cdv, ct, osl, rfl, lk, hcd⟩ := F.ex
  exact fn_of lk hcd S len fun A outer s H vs Q E hr hsp => body f cdv A outer s H vs Q E hr hsp
theorem IDef.okN (D : IDef K C qual st ps) (S : FnScope N ps (defScope st)) (len : ∀ vs H Q E, sp vs H Q E → vs.length = ps.length)
    (body : ∀ (f : Addr) (cdv : Value) (A : Around) (outer : List Env) (s : Shared) (H : Hp) (vs : List V) (Q : VK) (E : XK), Room k (A.deeper (envOfC qual (defScope st) s.heap.objs.size f cdv)) → sp vs H Q E →
      ∃ t, PSs (cxOf (L2N.CX P w) P w K mg base N qual (defScope st) f cdv A outer s H E) (defBody st) t ∧ t { nx := fun _ H' => Q .non H', rt := Q } (start N vs) H) : IHas P w K mg base (L2N.CX P w) (k + 1) C ps sp := by
  obtain ⟨f, fd, M, F, b⟩ := D
  refine ⟨f, fd, M, b, ?_⟩
  obtain ⟨oc, od, kV, doc, pm, an, cdv, ct, osl, rfl, lk, hcd⟩ := F.ex
  exact fn_of lk hcd S len fun A outer s H vs Q E hr hsp => body f cdv A outer s H vs Q E hr hsp
end

/-! ### calls -/
section
variable {X : Cx} {CX : CXT} {k : Nat} {C : Addr} {ps : List Str} {sp : Sp} {E : XK} {ES : L2.St → XK} {x m : Str} {p q pos apos : Pos} {e o : Expr} {es : List Expr} {ta : TE} {t : TA}
/-- f(e, ..) of a def that lets nothing out, from anywhere calm -/
theorem pe_f (G : Has X.prog X.w X.K X.mg X.base CX0 k x ps sp) (hr : Room k X.A) (hg : Gl X x) (ha : PA X (e :: es) t) (hdb : (x == ("__debug__" : Str)) = false := by decide)
    (he : starEach (e :: es) X.env = (false, eval e X.env) :: starEach es X.env := by rfl) (hpl : (backTo pos (starEach es X.env)).any (·.1) = false := by rfl) : PE X (.Call (.Name x q) (e :: es) [] pos) (tCall sp [] E0 t) := by
  obtain ⟨f, fd, hm, hk, hb, F⟩ := G
  exact pe_call F hr hg hm hk hb .nil pass0 ha hdb he hpl
/-- f(e, ..) of a def that may raise, from one that lets it out -/
theorem pe_fN (G : Has X.prog X.w X.K X.mg X.base (L2N.CX X.prog X.w) k x ps sp) (hr : Room k X.A) (hg : Gl X x) (hx : Passes (L2N.CX X.prog X.w) X E) (ha : PA X (e :: es) t) (hdb : (x == ("__debug__" : Str)) = false := by decide)
    (he : starEach (e :: es) X.env = (false, eval e X.env) :: starEach es X.env := by rfl) (hpl : (backTo pos (starEach es X.env)).any (·.1) = false := by rfl) : PE X (.Call (.Name x q) (e :: es) [] pos) (tCall sp [] E t) := by
  obtain ⟨f, fd, hm, hk, hb, F⟩ := G
  exact pe_call F hr hg hm hk hb .nil hx ha hdb he hpl
/-- .. within a try -/
theorem pe_fS {W : WX} (G : Has X.prog X.w X.K X.mg X.base (L2N.CX X.prog X.w) k x ps sp) (hr : Room k X.A) (hg : Gl X x) (tk : L2N.Takes X W) (ha : PA X (e :: es) t) (hdb : (x == ("__debug__" : Str)) = false := by decide)
    (he : starEach (e :: es) X.env = (false, eval e X.env) :: starEach es X.env := by rfl) (hpl : (backTo pos (starEach es X.env)).any (·.1) = false := by rfl) : PE X (.Call (.Name x q) (e :: es) [] pos) (tCallS sp (WE W) t) := by
  obtain ⟨f, fd, hm, hk, hb, F⟩ := G
  exact pe_callS F hr hg hm hk hb (fun σ => L2N.passAt tk σ) ha hdb he hpl
/-- nothing leaves a call that raises nothing -/
theorem pass00 {X : Cx} : Passes (L2N.CX X.prog X.w) X E0 := fun _ _ _ _ _ _ _ h => by
  obtain ⟨_, _, _, _, _, _, _, _, _, _, _, _, z⟩ := h
  exact z.elim
theorem takesF {X : Cx} : L2N.Takes X (fun _ _ _ _ => False) := fun _ _ x => by
  obtain ⟨_, _, _, _, _, _, _, _, _, _, _, _, _, _, _, _, z⟩ := x
  exact z.elim
/-- within an except suite -/
theorem pe_fH (G : HHas X.prog X.w X.K X.mg X.base CX0 k x ps sp) (hr : L2H.RoomH k X.A) (hc : L2H.HotC X) (hg : Gl X x) (ha : PA X (e :: es) t) (hdb : (x == ("__debug__" : Str)) = false := by decide)
    (he : starEach (e :: es) X.env = (false, eval e X.env) :: starEach es X.env := by rfl) (hpl : (backTo pos (starEach es X.env)).any (·.1) = false := by rfl) : PE X (.Call (.Name x q) (e :: es) [] pos) (tCallS sp (fun _ => E0) t) := by
  obtain ⟨f, fd, hm, hk, hb, F⟩ := G
  exact L2H.pe_callH F hr hc hg hm hk hb (fun σ _ _ _ _ _ _ h => h.elim) ha hdb he hpl
/-- o.m(e, ..) -/
theorem pe_m {pl : Sem Bool} (G : MHas X.prog X.w X.K X.mg X.base CX0 k C m ps sp) (he : PE X o ta) (c : Cls X.K C) (hr : Room k X.A) (ha : PA X (e :: es) t)
    (hst : starEach (e :: es) X.env = (false, eval e X.env) :: starEach es X.env := by rfl) (hpl : (backTo pos (starEach es X.env)).any (·.1) = false := by rfl)
    (ht : eval (.Call (.Attribute o m apos) (e :: es) [] pos) X.env = (do
      let ov ← eval o X.env
      standAt apos.atName
      let (f, first) ← holding [ov] (getMethod ov m pl)
      callWith pos f first (backTo pos (starEach (e :: es) X.env)) (backToKw pos (keywordEach [] X.env))) := by rfl) : PE X (.Call (.Attribute o m apos) (e :: es) [] pos) (tMeth C m sp [] E0 ta t) := by
  obtain ⟨f, fd, hm, hb, F⟩ := G
  exact pe_meth he c hm F hr hb .nil pass0 ha hst hpl ht
theorem pe_mN {pl : Sem Bool} (G : MHas X.prog X.w X.K X.mg X.base (L2N.CX X.prog X.w) k C m ps sp) (he : PE X o ta) (c : Cls X.K C) (hr : Room k X.A) (hx : Passes (L2N.CX X.prog X.w) X E) (ha : PA X (e :: es) t)
    (hst : starEach (e :: es) X.env = (false, eval e X.env) :: starEach es X.env := by rfl) (hpl : (backTo pos (starEach es X.env)).any (·.1) = false := by rfl)
    (ht : eval (.Call (.Attribute o m apos) (e :: es) [] pos) X.env = (do
      let ov ← eval o X.env
      standAt apos.atName
      let (f, first) ← holding [ov] (getMethod ov m pl)
      callWith pos f first (backTo pos (starEach (e :: es) X.env)) (backToKw pos (keywordEach [] X.env))) := by rfl) : PE X (.Call (.Attribute o m apos) (e :: es) [] pos) (tMeth C m sp [] E ta t) := by
  obtain ⟨f, fd, hm, hb, F⟩ := G
  exact pe_meth he c hm F hr hb .nil hx ha hst hpl ht
theorem pe_m0 {pl : Sem Bool} (G : MHas X.prog X.w X.K X.mg X.base CX0 k C m ps sp) (he : PE X o ta) (c : Cls X.K C) (hr : Room k X.A)
    (ht : eval (.Call (.Attribute o m apos) [] [] pos) X.env = (do
      let ov ← eval o X.env
      standAt apos.atName
      let (f, first) ← holding [ov] (getMethod ov m pl)
      callWith pos f first (backTo pos (starEach [] X.env)) (backToKw pos (keywordEach [] X.env))) := by rfl) : PE X (.Call (.Attribute o m apos) [] [] pos) (tMeth C m sp [] E0 ta tNil) := by
  obtain ⟨f, fd, hm, hb, F⟩ := G
  exact pe_meth0 he c hm F hr hb .nil pass0 ht
/-- .. of a method that may raise, within a try -/
def tMethS (C : Addr) (m : Str) (sp : Sp) (E : L2.St → XK) (ta : TE) (t : TA) : TE := fun σ H Q => ta σ H fun x H1 => ∃ a dx fs, x = .ref a ∧ H1 a = some (.ins C dx fs) ∧ fs.lookup m = none ∧ t σ H1 fun vs H2 => sp (x :: vs) H2 Q (E σ)
theorem pe_mS {W : WX} {pl : Sem Bool} (G : MHas X.prog X.w X.K X.mg X.base (L2N.CX X.prog X.w) k C m ps sp) (he : PE X o ta) (c : Cls X.K C) (hr : Room k X.A) (tk : L2N.Takes X W) (ha : PA X (e :: es) t)
    (hst : starEach (e :: es) X.env = (false, eval e X.env) :: starEach es X.env := by rfl) (hpl : (backTo pos (starEach es X.env)).any (·.1) = false := by rfl)
    (ht : eval (.Call (.Attribute o m apos) (e :: es) [] pos) X.env = (do
      let ov ← eval o X.env
      standAt apos.atName
      let (f, first) ← holding [ov] (getMethod ov m pl)
      callWith pos f first (backTo pos (starEach (e :: es) X.env)) (backToKw pos (keywordEach [] X.env))) := by rfl) : PE X (.Call (.Attribute o m apos) (e :: es) [] pos) (tMethS C m sp (WE W) ta t) := by
  obtain ⟨f, fd, hm, hb, F⟩ := G
  refine ⟨fun pins s σ H Q I h => ?_⟩
  refine PySem.W.methodCall_KW (pl := pl) (thn (he.run pins s σ H _ I h) fun u s1 ⟨x, H1, I1, rx, a, dx, fs, ex, ea, l, q⟩ => ?_) ht
  subst ex
  obtain rfl : u = Value.ref a := rx
  refine getmeth_ok I1 ea c hm l ?_
  refine PySem.W.callWith_K (first := [.ref a]) (h₀ := X.base) I.ok.mod.kin hm.kp (thn (ha.run pos pins s1 σ H1 _ I1 q) fun us s2 ⟨vs, H2, I2, r, q2⟩ => ⟨I2.kIn, ?_⟩) hst hpl
  exact run_fnS (us := .ref a :: us) (vs := .ref a :: vs) F hr hb (L2N.passAt tk σ) I2 (.cons rfl r) q2
/-- C(e, ..) -/
theorem pe_mk (G : IHas X.prog X.w X.K X.mg X.base (L2N.CX X.prog X.w) k C ps sp) (hr : Room (k + 1) X.A) (hg : Gl X x) (hm : X.mg x = some (.ref C)) (hx : Passes (L2N.CX X.prog X.w) X E) (ha : PA X (e :: es) t) (hdb : (x == ("__debug__" : Str)) = false := by decide)
    (he : starEach (e :: es) X.env = (false, eval e X.env) :: starEach es X.env := by rfl) (hpl : (backTo pos (starEach es X.env)).any (·.1) = false := by rfl) : PE X (.Call (.Name x q) (e :: es) [] pos) (tMake C sp [] E t) := by
  obtain ⟨f, fd, M, hb, F⟩ := G
  exact pe_make M F hr hg hm hb .nil hx ha hdb he hpl
def tMakeS (C : Addr) (sp : Sp) (E : L2.St → XK) (t : TA) : TE := fun σ H Q => t σ H fun vs H1 => ∀ x dx, H1 x = none → H1 dx = none → dx ≠ x →
  sp (.ref x :: vs) (upd (upd H1 dx (.own x)) x (.ins C dx [])) (fun v H2 => v = .non ∧ Q (.ref x) H2) (E σ)
/-- within a try: what is raised is wished for at the slots -/
theorem pe_mkS {W : WX} (G : IHas X.prog X.w X.K X.mg X.base (L2N.CX X.prog X.w) k C ps sp) (hr : Room (k + 1) X.A) (hg : Gl X x) (hm : X.mg x = some (.ref C)) (tk : L2N.Takes X W) (ha : PA X (e :: es) t) (hdb : (x == ("__debug__" : Str)) = false := by decide)
    (he : starEach (e :: es) X.env = (false, eval e X.env) :: starEach es X.env := by rfl) (hpl : (backTo pos (starEach es X.env)).any (·.1) = false := by rfl) : PE X (.Call (.Name x q) (e :: es) [] pos) (tMakeS C sp (WE W) t) := by
  obtain ⟨f, fd, M, hb, F⟩ := G
  refine ⟨fun pins s σ H Q I h => ?_⟩
  refine wpAny_Call_Name_kw (ld_glob I hg hm ?_ hdb)
  refine PySem.W.callWith_K (h₀ := X.base) I.ok.mod.kin M.kp (thn (ha.run pos pins s σ H _ I h) fun us s1 ⟨vs, H1, I1, r, q⟩ => ⟨I1.kIn, ?_⟩) he hpl
  have hq := q (s1.heap.objs.size + 1) s1.heap.objs.size (I1.hok.fresh (Nat.le_succ _)) (I1.hok.fresh (Nat.le_refl _)) (Nat.ne_of_lt (Nat.lt_succ_self _))
  have I2 := Inv.made (C := C) I1
  have r2 : Vals (V.ref (s1.heap.objs.size + 1) :: vs) (Value.ref (s1.heap.objs.size + 1) :: us) := .cons rfl r
  have hl : (Value.ref (s1.heap.objs.size + 1) :: us ++ []).length = ps.length := by
    have e := r2.length
    rw [F.len _ _ _ _ hq] at e
    rw [List.append_nil]
    exact e.symm
  have hbb := hb _ (Value.ref (s1.heap.objs.size + 1) :: us) I2.kIn hl
  rw [List.append_nil] at hbb
  refine wpAny_call (make_map (f := f) I1.kIn M.makes M.init (beq_iff_eq.mp M.fn) (codeAny_mono (F.run _ X.stack _ _ ⟨Value.ref (s1.heap.objs.size + 1) :: us, []⟩ (Value.ref (s1.heap.objs.size + 1) :: us) _ _ (WE W σ) (hr.make C us [])
    (I2.env0.make C us []) hbb r2 hq) fun r s' hq' => ?_))
  cases r with
  | error e => exact L2N.passAt tk σ pins _ _ e s' I2 hq'
  | ok fl =>
    cases fl with
    | ret u =>
      obtain ⟨v, H', I3, rv, ev, q3⟩ := I2.after hq'
      subst ev
      exact ⟨rv, ⟨V.ref (s1.heap.objs.size + 1), H', I3, rfl, q3⟩⟩
    | next => exact False.elim hq'
    | brk => exact False.elim hq'
    | cont => exact False.elim hq'
end

/-! ### isinstance of the error that is handled, in a callee -/
/-- the pinned object is an error of the class at D -/
def rIsP (K : PySem.W.Frag) (D a : Addr) : List V → Hp → VK → Prop := fun xs H Q => ∃ (c : V) (cv : Value) (b : Bool), xs = [.ref a, c] ∧ (∀ u, RelV c u → u = cv) ∧ PySem.W.kitOne K (.ref D) cv = some b ∧ Q (.bl b) H
theorem call_isP {X : Cx} {p : Addr × Obj} {D : Addr} (hp : p ∈ X.pn) (C : ExcC X.K D) (hz : p.2.cls = .ref D) (hd : p.2.dict = none) (hf : ∃ vs, p.2.data = .fields vs) : CallR X (.builtin "isinstance") (rIsP X.K D p.1) := by
  intro pins s σ H xs us Q I r h
  obtain ⟨c, cv, b, rfl, hcv, e, q⟩ := h
  cases r with
  | cons rx rr =>
    cases rr with
    | cons rt rr =>
      cases rr
      cases rx
      have ec := hcv _ rt
      subst ec
      obtain ⟨hget, _⟩ := I.pin p (List.mem_append_left _ hp)
      obtain ⟨vs, hv⟩ := hf
      have J : PySem.W.InstAt s.heap p.1 p.2 D none := by
        obtain ⟨pa, oc, od, oda, osl⟩ := p
        dsimp only at hz hd hv
        subst hz hd hv
        exact ⟨hget, rfl, rfl, trivial⟩
      exact PySem.W.kia_one (PySem.W.handS_kitx_exc C.hg C.hk C.hs C.hd C.ha C.hn C.ht C.hm) I.kIn J e (fun z => nomatch z) fun tk => ⟨.bl b, H, I.kept (t' := tk) fun _ _ z => z, rfl, q⟩
end Fd

/-! Defs that are called within an except suite and are handed the very error that is handled: the promise is given for that error, told by its pin p. -/
namespace Fh
open PySem PySem.Spec PyProof.Rows L2 L2H
abbrev St := L2.St
structure FnP (P : Program) (w : World) (K : PySem.W.Frag) (mg : Str → Option Value) (base : Heap) (k : Nat) (f : Addr) (fd : FuncData) (ps : List Str) (sp : Sp) (p : Addr × Obj) : Prop where
  len : ∀ vs H Q E, sp vs H Q E → vs.length = ps.length
  go : ∀ (A : Around) (outer : List Env) (s : Shared) (H : Hp) (args : Args) (us : List Value) (vs : List V) (Q : VK) (E : XK),
    RoomH k A → Hot1 A p → PinOk outer H s p → Env0 P w K mg base A outer s H → BindsTo s fd args (ps.zip us) → Vals vs us → sp vs H Q E → codeAny (model P w) A (.call (.ref f) args) (CR CX0 outer P w H s Q E) s
section
variable {P : Program} {w : World} {K : PySem.W.Frag} {mg : Str → Option Value} {base : Heap} {k : Nat} {f : Addr} {x : Str} {st : Stmt} {fd : FuncData} {N ps : List Str} {sp : Sp} {p : Addr × Obj}
theorem made (F : Fun K x x st f fd) (S : FnScope N ps (defScope st)) (len : ∀ vs H Q E, sp vs H Q E → vs.length = ps.length)
    (body : ∀ (cdv : Value) (A : Around) (outer : List Env) (s : Shared) (H : Hp) (vs : List V) (Q : VK) (E : XK), Hot1 A p → RoomH k (A.deeper (envOfC x (defScope st) s.heap.objs.size f cdv)) → sp vs H Q E →
      ∃ t, PSs (cxH CX0 P w K mg base N x (defScope st) f cdv A outer s H E p) (defBody st) t ∧ t { nx := fun _ H' => Q .non H', rt := Q } (L2.start N vs) H) : FnP P w K mg base (k + 1) f fd ps sp p := by
  obtain ⟨oc, od, kV, doc, pm, an, cdv, ct, osl, rfl, lk, hcd⟩ := F.ex
  constructor
  · exact len
  · intro A outer s H args us vs Q E hr hot pin e0 hb r hsp
    have KX : K.In s.heap := e0.mod.kin.keeps fun b o e => (e0.bs b o e).1
    have cellsOk : ∀ y ∈ ps.zip us, (defScope st).names.lookup y.1 = some .local ∨ ((defScope st).names.lookup y.1 = some .cell ∧ ((cellsFrom (s.heap.objs.size + 1) (defScope st).names []).lookup y.1).isSome = true) := by
      rintro ⟨n, v⟩ hy
      exact (S.par n (List.of_mem_zip hy).1).imp id fun q => ⟨q, PySem.W.cellsFrom_some _ _ _ (.inl q)⟩
    refine codeAny_call_function hr.depth (KX _ _ lk) rfl S.co S.gen rfl (PySem.W.codeRec_of KX hcd) (hb _ _ _ _ (wpAny_newFunctionEnv_cells S.kind cellsOk fun env he s1 xc => ?_))
    subst he
    refine ⟨(e0.mod.nolimit.keeps fun b o e => (e0.bs b o e).1).keeps xc.toInCall.keep, codeAny_func ?_⟩
    obtain ⟨t, ht, hq⟩ := body cdv A outer s H vs Q E hot (hr.deeper _) hsp
    have I : Inv (cxH CX0 P w K mg base N x (defScope st) f cdv A outer s H E p) [] (L2.start N vs) H s1 := inv_startH S pin e0 (len _ _ _ _ hsp) r xc
    have out : ∀ {σ' : St} {H' : Hp} {v : V} {u : Value} {s' : Shared}, Inv (cxH CX0 P w K mg base N x (defScope st) f cdv A outer s H E p) [] σ' H' s' → RelV v u → Q v H' → CE outer P w H s Q u s' :=
      fun J rv q => ⟨_, _, J.os, J.bare, J.base, J.hok, rv, q⟩
    refine wpAny_mono (ht.run [] s1 _ H _ I hq) (fun fl s' hs => ?_) fun e s' hs => hs
    match fl, hs with
    | .ret u, ⟨v, σ', H', J, rv, q⟩ => exact out J rv q
    | .next, ⟨σ', H', J, q⟩ => exact out (v := V.non) (u := Value.none) J rfl q
    | .brk, ⟨_, _, _, q⟩ => exact q.elim
    | .cont, ⟨_, _, _, q⟩ => exact q.elim
end
def HasP (P : Program) (w : World) (K : PySem.W.Frag) (mg : Str → Option Value) (base : Heap) (k : Nat) (x : Str) (ps : List Str) (sp : Sp) (p : Addr × Obj) : Prop :=
  ∃ f fd, mg x = some (.ref f) ∧ PySem.W.keepIn K (.ref f) = true ∧ Binds K fd ps [] ∧ FnP P w K mg base k f fd ps sp p
theorem okP {P : Program} {w : World} {K : PySem.W.Frag} {mg : Str → Option Value} {base : Heap} {k : Nat} {x : Str} {st : Stmt} {N ps : List Str} {sp : Sp} {p : Addr × Obj} (D : Fd.Def K mg x st ps) (S : FnScope N ps (defScope st)) (len : ∀ vs H Q E, sp vs H Q E → vs.length = ps.length)
    (body : ∀ (f : Addr) (cdv : Value) (A : Around) (outer : List Env) (s : Shared) (H : Hp) (vs : List V) (Q : VK) (E : XK), Hot1 A p → RoomH k (A.deeper (envOfC x (defScope st) s.heap.objs.size f cdv)) → sp vs H Q E →
      ∃ t, PSs (cxH CX0 P w K mg base N x (defScope st) f cdv A outer s H E p) (defBody st) t ∧ t { nx := fun _ H' => Q .non H', rt := Q } (L2.start N vs) H) : HasP P w K mg base (k + 1) x ps sp p := by
  obtain ⟨f, fd, a, F, b⟩ := D
  exact ⟨f, fd, a, F.kp, b, made F S len (body f)⟩
section
variable {X : Cx} {k : Nat} {ps : List Str} {sp : Sp} {x : Str} {q pos : Pos} {e : Expr} {es : List Expr} {t : TA} {p : Addr × Obj}
theorem pe_p (G : HasP X.prog X.w X.K X.mg X.base k x ps sp p) (hr : RoomH k X.A) (hot : Hot1 X.A p) (hp : p ∈ X.pn) (hg : Gl X x) (ha : PA X (e :: es) t) (hdb : (x == ("__debug__" : Str)) = false := by decide)
    (he : starEach (e :: es) X.env = (false, eval e X.env) :: starEach es X.env := by rfl) (hpl : (backTo pos (starEach es X.env)).any (·.1) = false := by rfl) : PE X (.Call (.Name x q) (e :: es) [] pos) (tCall sp [] E0 t) := by
  obtain ⟨f, fd, hm, hk, hb, F⟩ := G
  refine ⟨fun pins s σ H Q I h => wpAny_Call_Name_kw (ld_glob I hg hm ?_ hdb)⟩
  refine PySem.W.callWith_K (h₀ := X.base) I.ok.mod.kin hk (thn (ha.run pos pins s σ H _ I h) fun us s1 ⟨vs, H1, J, r, h1⟩ => ⟨J.kIn, ?_⟩) he hpl
  replace h1 : sp (vs ++ []) H1 Q E0 := h1
  rw [List.append_nil] at h1
  have b := hb s1 us J.kIn (by rw [List.append_nil, ← r.length]; exact F.len _ _ _ _ h1)
  rw [List.append_nil] at b
  have P1 := J.pin p (List.mem_append_left _ hp)
  have pin : PinOk X.stack H1 s1 p := ⟨P1.1, P1.2.1, fun hm => (List.mem_cons.mp (J.stkSub p.1 hm)).elim P1.2.2.1 P1.2.2.2.1, P1.2.2.2.2⟩
  refine wpAny_call (codeAny_mono (F.go X.A X.stack s1 H1 ⟨us, []⟩ us vs Q E0 hr hot pin J.env0 b r h1) fun r s' hq => ?_)
  match r, hq with
  | .ok (.ret u), hq => exact J.after hq
  | .ok .next, hq => exact hq.elim
  | .ok .brk, hq => exact hq.elim
  | .ok .cont, hq => exact hq.elim
  | .error e, hq => exact hq.elim
end
theorem roomM {k : Nat} {A : Around} {v : Option Value} (r : Room k A) : RoomH k (A.mark v) := ⟨r.dp, r.un⟩
theorem hotM {A : Around} {a : Addr} {oe : Obj} {cls : Value} {d : Option Addr} (hz : L2N.Zn cls d oe) (hf : ∃ vs, oe.data = .fields vs) : Hot1 (A.mark (some (.ref a))) (a, oe) := by
  obtain ⟨vs, e⟩ := hf
  exact ⟨rfl, vs, e, hz.2.2 vs e⟩
end Fh

/-! A display of one whole number: a set of it. -/
namespace Sd
open PySem PySem.Spec PyProof.Rows L2
section
variable {P : Program} {w : World} {A : Around} {E : Value → Shared → Prop} {s : Shared}
theorem newSet_led {Q : Value → Shared → Prop}
    (h : Q (.ref s.heap.objs.size) { s with heap := s.heap.push { cls := .type "set", dict := none, data := .set #[] 0 (.fresh 0 0 (!w.params.followText "set-order")) } }) :
    wpAny (model P w) A (newSet (.type "set")) Q E s := by
  unfold newSet setsByText
  refine wpAny_bind (wpAny_bind (wpAny_askSetting (wpAny_pure ?_)))
  dsimp only
  simp only [newObj]
  exact wpAny_bind (wpAny_alloc (wpAny_pure h))
theorem display1 {b : Bool} {t : Sem Value} {Q : Value → Shared → Prop}
    (h : wpAny (model P w) A t (fun v s' => wpAny (model P w) A (setAdd s.heap.objs.size v) (fun _ s2 => Q (.ref s.heap.objs.size) s2) E s') E { s with heap := s.heap.push { cls := .type "set", dict := none, data := .set #[] 0 (.fresh 0 0 (!w.params.followText "set-order")) } }) :
    wpAny (model P w) A (setDisplay .oneByOne b [(false, t)]) Q E s := by
  unfold setDisplay
  try dsimp only
  rw [if_neg (by decide)]
  refine wpAny_bind (newSet_led ?_)
  dsimp only
  have e1 : (if ([(false, t)] : List (Bool × Sem Value)).length > 30 then 0 else (List.findIdx? (fun x => x.fst) [(false, t)]).getD ([(false, t)] : List (Bool × Sem Value)).length) = 1 := rfl
  rw [e1]
  refine wpAny_bind (wpAny_holding ?_)
  refine wpAny_bind (m := evalAll [t]) ?_
  refine wpAny_bind (wpAny_mono h (fun v s' h' => ?_) fun _ _ x => x)
  refine wpAny_bind (wpAny_holding (wpAny_pure ?_))
  refine wpAny_pure ?_
  refine wpAny_bind (wpAny_holding ?_)
  rw [List.forIn_cons]
  refine wpAny_bind (wpAny_bind (wpAny_bind (wpAny_mono h' (fun _ s2 h2 => ?_) fun _ _ x => x)))
  refine wpAny_pure ?_
  dsimp only
  rw [List.forIn_nil]
  refine wpAny_pure ?_
  rw [if_neg (by decide)]
  refine wpAny_pure ?_
  rw [show ([(false, t)] : List (Bool × Sem Value)).drop 1 = [] from rfl, List.forIn_nil]
  exact wpAny_pure (wpAny_pure h2)
theorem setAdd1 {a : Addr} {S : Int → Bool} {n : Nat} {k : Int} {tk : Tok} {Q : Bool → Shared → Prop} (R : SetR w s.heap a S n) (room : n + 1 < scanBound)
    (hQ : ∀ h', Heap.SameBut a s.heap h' → SetR w h' a (fun j => S j || decide (j = k)) (if S k = true then n else n + 1) → Q (!S k) { s with heap := h', toks := s.toks + 1 }) :
    wpAny (model P w) A (setAdd a (.int k tk)) Q E s := by
  unfold setAdd
  refine wpAny_holding ?_
  refine wpAny_bind ((intKind P w).pyHash (intKind_is P w k tk) ?_)
  exact setR_add_hashed (s := { s with toks := s.toks + 1 }) R room fun h' sb r => hQ h' sb r
end
def tSet1 (w : World) (t : TE) : TE := fun σ H Q => ∀ p, H p = none → t σ (upd H p (SetO w p (fun _ => false) 0)) fun x H1 => ∃ k : Int, x = .int k ∧ H1 p = some (SetO w p (fun _ => false) 0) ∧ Q (.ref p) (upd H1 p (SetO w p (fun j => decide (j = k)) 1))
variable {X : Cx} {e : Expr} {t : TE} {pos : Pos}
/-- {e}, one whole number -/
theorem pe_set1 (he : PE X e t) (hcd : PySem.W.kdsCode X.K X.env.code = true) (hst : starEach [e] X.env = [(false, eval e X.env)] := by rfl) : PE X (.Set [e] 0 pos) (tSet1 X.w t) := by
  refine ⟨fun pins s σ H Q I h => ?_⟩
  rw [arm_eval_Set]
  refine wpAny_bind (wpAny_standAt ?_)
  refine wpAny_bind (PySem.W.kds_main I.kIn hcd fun b => ?_)
  rw [hst]
  refine display1 ?_
  have new := setR_fresh (h := s.heap) X.w
  have I1 : Inv X pins σ (upd H s.heap.objs.size (SetO X.w s.heap.objs.size (fun _ => false) 0)) { s with heap := s.heap.push { cls := .type "set", dict := none, data := .set #[] 0 (.fresh 0 0 (!X.w.params.followText "set-order")) } } :=
    I.laid (t' := s.toks) (fun b u e => Heap.get?_push_of_some _ e) (Nat.le_refl _) (setO_new new)
  refine wpAny_bind (thn (he.run pins _ σ _ _ I1 (h s.heap.objs.size (I.hok.fresh (Nat.le_refl _)))) fun u s1 ⟨x, H1, I2, r1, k, ex, hp, q⟩ => ?_)
  subst ex
  obtain ⟨tk, rfl⟩ := r1
  refine wpAny_bind (wpAny_standAt (wpAny_pure ?_))
  have R := setO_get I2 hp
  refine setAdd1 R (by decide) fun h' sb r => ?_
  have r' : SetR X.w h' s.heap.objs.size (fun j => decide (j = k)) 1 := by
    have e1 : (fun j => (fun _ => false) j || decide (j = k)) = fun j => decide (j = k) := by funext j; exact Bool.false_or _
    rw [e1, if_neg Bool.false_ne_true] at r
    exact r
  have he' : ∃ u, h'.get? s.heap.objs.size = some u := by
    have ⟨o, _, _, _, ho, _⟩ := r'
    exact ⟨o, ho⟩
  exact ⟨.ref s.heap.objs.size, upd H1 s.heap.objs.size (SetO X.w s.heap.objs.size (fun j => decide (j = k)) 1), I2.write (e := s.heap.objs.size) (t' := s1.toks + 1) (by rw [hp]; trivial) (.inl rfl) (fun b u hb hu => (sb.2 b hb).trans hu) he' (setO_new r'), rfl, q⟩

def rLen (K : PySem.W.Frag) : List V → Hp → VK → Prop := fun xs H Q => ∃ p ys, xs = [V.ref p] ∧ (SqL K H p ys ∨ SqT K H p ys) ∧ Q (.int (ys.length : Nat)) H
theorem u65 {k : Nat} {A : Around} (r : Room k A) : A.units + 65 < cLine := by have := r.un; omega
/-- a statement's reading, held together -/
def hold (t : TS) : TS := fun D σ H => t D σ H
theorem keep {X : Cx} {st : Stmt} {t : TS} (h : PS X st t) : PS X st (hold t) := h
/-- what is never come to -/
theorem pss_void {X : Cx} {l : List Stmt} : PSs X l (fun _ _ _ => False) := ⟨fun _ _ _ _ _ _ h => h.elim⟩
/-! ### defs whose code object is asked -/
section
variable {P : Program} {w : World} {K : PySem.W.Frag} {mg : Str → Option Value} {base : Heap} {CX : CXT} {j k : Nat} {x m qual : Str} {st : Stmt} {ps N : List Str} {sp : Sp} {C : Addr}
theorem okC (D : Fd.Def K mg x st ps) (S : FnScope N ps (defScope st)) (len : ∀ vs H Q E, sp vs H Q E → vs.length = ps.length)
    (body : ∀ (f : Addr) (cdv : Value) (A : Around) (outer : List Env) (s : Shared) (H : Hp) (vs : List V) (Q : VK) (E : XK), PySem.W.kdsCode K cdv = true → Room k (A.deeper (envOfC x (defScope st) s.heap.objs.size f cdv)) → sp vs H Q E →
      ∃ t, PSs (cxOf CX0 P w K mg base N x (defScope st) f cdv A outer s H E).nox (defBody st) t ∧ t { nx := fun _ H' => Q .non H', rt := Q } (start N vs) H) : Fd.Has P w K mg base CX0 (k + 1) x ps sp := by
  obtain ⟨f, fd, a, F, b⟩ := D
  refine ⟨f, fd, a, F.kp, b, ?_⟩
  obtain ⟨oc, od, kV, doc, pm, an, cdv, ct, osl, rfl, lk, hcd⟩ := F.ex
  refine fn_of lk hcd S len fun A outer s H vs Q E hr hsp => ?_
  obtain ⟨t, h, q⟩ := body f cdv A outer s H vs Q E (kdsCode_of hcd) hr hsp
  exact ⟨t, h.nox, q⟩
theorem okNC (D : Fd.Def K mg x st ps) (S : FnScope N ps (defScope st)) (len : ∀ vs H Q E, sp vs H Q E → vs.length = ps.length)
    (body : ∀ (f : Addr) (cdv : Value) (A : Around) (outer : List Env) (s : Shared) (H : Hp) (vs : List V) (Q : VK) (E : XK), PySem.W.kdsCode K cdv = true → Room k (A.deeper (envOfC x (defScope st) s.heap.objs.size f cdv)) → sp vs H Q E →
      ∃ t, PSs (cxOf (L2N.CX P w) P w K mg base N x (defScope st) f cdv A outer s H E) (defBody st) t ∧ t { nx := fun _ H' => Q .non H', rt := Q } (start N vs) H) : Fd.Has P w K mg base (L2N.CX P w) (k + 1) x ps sp := by
  obtain ⟨f, fd, a, F, b⟩ := D
  refine ⟨f, fd, a, F.kp, b, ?_⟩
  obtain ⟨oc, od, kV, doc, pm, an, cdv, ct, osl, rfl, lk, hcd⟩ := F.ex
  exact fn_of lk hcd S len fun A outer s H vs Q E hr hsp => body f cdv A outer s H vs Q E (kdsCode_of hcd) hr hsp
end
end Sd

/-! xs[::2] of a list. -/
namespace St2
open PySem PySem.Spec PyProof.Rows L2
/-- each second item, from the first on -/
def ev {α : Type} : List α → List α
  | [] => []
  | [x] => [x]
  | x :: _ :: r => x :: ev r
theorem ev_pick {α : Type} : ∀ xs : List α, (List.range ((xs.length + 1) / 2)).filterMap (fun k => xs[2 * k]?) = ev xs
  | [] => by simp [ev]
  | [x] => by simp [ev, List.range_succ]
  | x :: y :: r => by
    have e : ((x :: y :: r).length + 1) / 2 = (r.length + 1) / 2 + 1 := by
      rw [List.length_cons, List.length_cons]; omega
    rw [e, List.range_succ_eq_map, List.filterMap_cons_some (b := x) (by rfl), List.filterMap_map]
    show x :: _ = x :: ev r
    rw [← ev_pick r]
    refine congrArg (x :: ·) ?_
    refine congrArg (fun f => (List.range ((r.length + 1) / 2)).filterMap f) ?_
    funext k
    show (x :: y :: r)[2 * (k + 1)]? = r[2 * k]?
    rw [show 2 * (k + 1) = 2 * k + 1 + 1 by omega, List.getElem?_cons_succ, List.getElem?_cons_succ]
theorem ev_len {α : Type} : ∀ xs : List α, (ev xs).length = (xs.length + 1) / 2
  | [] => by simp [ev]
  | [x] => by simp [ev]
  | x :: y :: r => by
    show (ev r).length + 1 = _
    rw [ev_len r, List.length_cons, List.length_cons]; omega
theorem range2 (n : Nat) : sliceRange 0 (n : Int) 2 = (List.range ((n + 1) / 2)).map fun k => 2 * k := by
  unfold sliceRange
  have h1 : (2 : Int) > 0 := by decide
  by_cases h : (0 : Int) < (n : Int)
  · have e : (((n : Int) - 0 + 2 - 1) / 2).toNat = (n + 1) / 2 := by omega
    simp only [h1, if_true, h, e]
    refine List.map_congr_left fun k hk => ?_
    omega
  · have e : n = 0 := by omega
    subst e
    simp
theorem pick2 (items : Array Value) : slicePick items none none (some 2) = (ev items.toList).toArray := by
  unfold slicePick
  have eb : sliceBounds none none (some 2) items.size = (0, (items.size : Int), 2) := by
    first
    | rfl
    | simp [sliceBounds]
  rw [eb]
  show ((sliceRange 0 (items.size : Int) 2).filterMap (items[·]?)).toArray = _
  rw [range2, List.filterMap_map, ← ev_pick items.toList, Array.length_toList]
  refine congrArg List.toArray ?_
  refine congrArg (fun f => (List.range ((items.size + 1) / 2)).filterMap f) ?_
  funext k
  show items[2 * k]? = items.toList[2 * k]?
  rw [Array.getElem?_toList]
theorem ev_vals : ∀ {xs : List V} {us : List Value}, Vals xs us → Vals (ev xs) (ev us)
  | _, _, .nil => .nil
  | _, _, .cons h .nil => .cons h .nil
  | _, _, .cons h (.cons _ t) => .cons h (ev_vals t)
def tEvL (K : PySem.W.Frag) (te : TE) : TE := fun σ H Q => te σ H fun x H1 => ∃ a xs, x = .ref a ∧ SqL K H1 a xs ∧ ∀ p, H1 p = none → Q (.ref p) (upd H1 p (.lst (ev xs)))
variable {X : Cx}
theorem pe_evL {e : Expr} {te : TE} {k : Nat} {p1 p3 pos : Pos} (he : PE X e te) : PE X (.Subscript e (.Slice none none (some (.Constant (.int 2) k p1)) p3) pos) (tEvL X.K te) := by
  refine ⟨fun pins s σ H Q I h => ?_⟩
  refine Subscript_ (thn (he.run pins s σ H _ I h) fun v s1 ⟨x, H1, I1, r1, q1⟩ => ?_)
  obtain ⟨a, xs, ex, hx, q⟩ := q1
  subst ex
  cases r1
  have hst : PO X (some (.Constant (.int 2) k p1)) (tPart (tC (.int 2))) := po_some pe_int
  refine wpAny_Slice (thn (po_none.run pins s1 σ H1 (fun o H2 => o = none ∧ H2 = H1) I1 ⟨rfl, rfl⟩) fun vl s2 ⟨l, H2, I2, pl, el, e2⟩ => ?_)
  subst el e2
  refine thn (po_none.run pins s2 σ H2 (fun o H3 => o = none ∧ H3 = H2) I2 ⟨rfl, rfl⟩) fun vu s3 ⟨u, H3, I3, pu, eu, e3⟩ => ?_
  subst eu e3
  refine thn (hst.run pins s3 σ H3 (fun o H4 => o = some 2 ∧ H4 = H3) I3 ⟨2, rfl, rfl, rfl⟩) fun vs s4 ⟨o, H4, I4, ps, eo, e4⟩ => ?_
  subst eo e4
  have I5 : Inv X pins σ H4 { s4 with heap := s4.heap.push { cls := .type "slice", data := .fields #[vl, vu, vs] } } := I4.kept (t' := s4.toks) fun b ob q => Heap.get?_push_of_some _ q
  obtain ⟨its, r, ht, hz⟩ := I5.list hx
  have hlen := r.length
  show wpAny (model X.prog X.w) X.A (subscriptTail e (.Slice none none (some (.Constant (.int 2) k p1)) p3) (.ref a) (.ref s4.heap.objs.size)) (EP X pins σ Q) X.xe { s4 with heap := s4.heap.push { cls := .type "slice", data := .fields #[vl, vu, vs] } }
  refine tail_any (ops := [.ref a, .ref s4.heap.objs.size]) ht.isList.typeIs (PySem.slot_list_getitem.lookup) ?_ (by with_unfolding_all rfl)
  refine wpAny_getItem_list_slice ht.isList (Heap.IsSliceOf.new _ vl vu vs) pl pu ps (by decide) ?_ (by rw [List.size_toArray]; omega)
  rw [pick2]
  refine ⟨.ref _, _, I5.laid (t' := s4.toks) (o := .lst (ev xs)) (fun b ob q => Heap.get?_push_of_some _ q) (Nat.le_refl _) ?_, rfl, q _ (I5.hok.fresh (Nat.le_refl _))⟩
  exact ⟨by rw [ev_len]; omega, _, 0, ev_vals r, Heap.get?_push_size _ rfl⟩
end St2

/-! len(set(xs)) of whole numbers, some of them twice. -/
namespace St2
open PySem PySem.Spec PyProof.Rows L2
/-- how many different numbers there are -/
def dist (ns : List Int) : Nat := (PyProof.Rows.firstMet (fun i => ns.getD i 0) ns.length).length
theorem dist_nd {ns : List Int} (h : ns.Nodup) : dist ns = ns.length := by
  unfold dist
  rw [RZ.firstMet_nodup h ns.length (Nat.le_refl _), List.take_length]
theorem fm_le (f : Nat → Int) : ∀ i, (PyProof.Rows.firstMet f i).length ≤ i
  | 0 => Nat.le_refl _
  | i + 1 => by
    have ih := fm_le f i
    rw [PyProof.Rows.firstMet_succ]
    unfold PyProof.Rows.step_dedup
    split
    · omega
    · rw [List.length_append, List.length_singleton]; omega
theorem fm_eq (f : Nat → Int) : ∀ i, (PyProof.Rows.firstMet f i).length = i → PyProof.Rows.firstMet f i = (List.range i).map f ∧ ((List.range i).map f).Nodup
  | 0, _ => ⟨rfl, List.nodup_nil⟩
  | i + 1, h => by
    have le := fm_le f i
    rw [PyProof.Rows.firstMet_succ] at h ⊢
    unfold PyProof.Rows.step_dedup at h ⊢
    by_cases c : (PyProof.Rows.firstMet f i).any (· == f i) = true
    · rw [if_pos c] at h; omega
    · rw [if_neg c] at h ⊢
      rw [List.length_append, List.length_singleton] at h
      obtain ⟨e, nd⟩ := fm_eq f i (by omega)
      rw [e] at c
      have nm : f i ∉ (List.range i).map f := fun z => c (List.any_eq_true.mpr ⟨f i, z, by simp⟩)
      rw [List.range_succ, List.map_append, e]
      exact ⟨rfl, List.nodup_append.mpr ⟨nd, List.pairwise_singleton _ _, fun a ha b hb e2 => nm (by rw [← List.mem_singleton.mp hb, ← e2]; exact ha)⟩⟩
theorem dist_iff {ns : List Int} : dist ns = ns.length ↔ ns.Nodup := by
  refine ⟨fun h => ?_, dist_nd⟩
  have e : (List.range ns.length).map (fun i => ns.getD i 0) = ns := by
    refine List.ext_getElem? fun i => ?_
    by_cases hi : i < ns.length
    · rw [List.getElem?_map, List.getElem?_range hi, List.getElem?_eq_getElem hi]
      show some (ns.getD i 0) = _
      rw [List.getD_eq_getElem?_getD, List.getElem?_eq_getElem hi]; rfl
    · rw [List.getElem?_eq_none (by rw [List.length_map, List.length_range]; omega), List.getElem?_eq_none (by omega)]
  have h2 := (fm_eq (fun i => ns.getD i 0) ns.length h).2
  rw [e] at h2; exact h2
def tLenD (K : PySem.W.Frag) (ta : TE) : TE := fun σ H Q => ta σ H fun x H1 => ∃ (l : Addr) (ns : List Int), x = .ref l ∧ SqL K H1 l (ns.map V.int) ∧ ns.length ≤ 4000 ∧ Q (.int (dist ns : Nat)) H1
theorem pe_lenD {X : Cx} {a : Expr} {ta : TE} {p p2 q pos : Pos} (hg : Gl X "len") (hm : X.mg "len" = none) (hg2 : Gl X "set") (hm2 : X.mg "set" = none) (ha : PE X a ta) (hc : X.calm = true := by rfl)
    (na : starEach [a] X.env = (false, eval a X.env) :: starEach [] X.env := by rfl) : PE X (.Call (.Name "len" p) [.Call (.Name "set" p2) [a] [] q] [] pos) (tLenD X.K ta) := by
  refine ⟨fun pins s σ H Q I h => ?_⟩
  refine Call_ (ld_blt I hg hm boot_len ?_)
  refine PyProof.Rows.callWith_builtin1 (PyProof.Rows.args_cons ?_ rfl) rfl rfl
  refine Call_ (ld_blt I hg2 hm2 boot_set ?_)
  refine PyProof.Rows.callWith_type1 (PyProof.Rows.args_cons (thn (ha.run pins s σ H _ I h) fun v s1 ⟨x, H1, I1, r1, q1⟩ => PyProof.Rows.args_nil ?_) na) na rfl
  obtain ⟨l, ns, rfl, hq, hl, q1⟩ := q1
  cases r1
  obtain ⟨its, r, pl, hz⟩ := I1.list hq
  have hlen : its.toArray.size = ns.length := by rw [List.size_toArray, ← r.length, List.length_map]
  refine call_set_list (I1.ok.hd hc) pl.isList (by simpa using RZ.intsAre_vals r) (by rw [hlen]; unfold scanBound; omega) fun h' tk hS hk => ?_
  refine PyProof.Rows.args_nil ?_
  rw [hlen] at hS
  obtain ⟨o, es, ep, t, ho, hex, hd, _, _, _, hf, hn⟩ := hS
  have I2 : Inv X pins σ H1 { s1 with heap := h', toks := tk } := I1.kept fun b o e => hk b o (Heap.lt_size e) e
  have hdl : dist ns ≤ ns.length := fm_le _ _
  have hn' : es.size = dist ns := hn
  exact call_len_set ho hex hd hf (by rw [hn'] <;> omega) ⟨.int (dist ns : Nat), H1, I2.tok _, ⟨_, by rw [hn']⟩, q1⟩
end St2

namespace Ge
/-- ties: who lies beside whom -/
structure Gr (nb : Int → List Int) : Prop where
  sym : ∀ {p q}, q ∈ nb p → p ∈ nb q
  irr : ∀ {p}, p ∉ nb p
/-- a pairing: for each place its mate -/
structure Mt (nb : Int → List Int) (m : Int → Option Int) : Prop where
  sym : ∀ {p q}, m p = some q → m q = some p
  tie : ∀ {p q}, m p = some q → q ∈ nb p
/-- l is a road from r to x -/
structure Rd (nb : Int → List Int) (m : Int → Option Int) (r x : Int) (l : List Int) : Prop where
  odd : l.length % 2 = 1
  fst : l[0]? = some r
  lst : l[l.length - 1]? = some x
  nd : l.Nodup
  adj : ∀ (i : Nat) (a b : Int), l[i]? = some a → l[i+1]? = some b → b ∈ nb a
  alt : ∀ (i : Nat) (a b : Int), i % 2 = 1 → l[i]? = some a → l[i+1]? = some b → m a = some b
theorem nodup_at {l : List Int} (h : l.Nodup) {i j : Nat} {a : Int} (hi : l[i]? = some a) (hj : l[j]? = some a) : i = j := by
  obtain ⟨h1, e1⟩ := List.getElem?_eq_some_iff.mp hi
  obtain ⟨h2, e2⟩ := List.getElem?_eq_some_iff.mp hj
  have k := List.pairwise_iff_getElem.mp h
  rcases Nat.lt_trichotomy i j with c | c | c
  · exact absurd (e1.trans e2.symm) (k i j h1 h2 c)
  · exact c
  · exact absurd (e2.trans e1.symm) (k j i h2 h1 c)
theorem mem_take {l : List Int} {k : Nat} {a : Int} : a ∈ l.take k ↔ ∃ j, j < k ∧ l[j]? = some a := by
  constructor
  · intro h
    obtain ⟨j, hj⟩ := List.getElem?_of_mem h
    rw [List.getElem?_take] at hj
    by_cases c : j < k
    · rw [if_pos c] at hj; exact ⟨j, c, hj⟩
    · rw [if_neg c] at hj; cases hj
  · rintro ⟨j, h1, h2⟩
    exact List.mem_of_getElem? (i := j) (by rw [List.getElem?_take, if_pos h1]; exact h2)
theorem mem_drop {l : List Int} {k : Nat} {a : Int} : a ∈ l.drop k ↔ ∃ j, k ≤ j ∧ l[j]? = some a := by
  constructor
  · intro h
    obtain ⟨j, hj⟩ := List.getElem?_of_mem h
    rw [List.getElem?_drop] at hj
    exact ⟨k + j, Nat.le_add_right _ _, hj⟩
  · rintro ⟨j, h1, h2⟩
    exact List.mem_of_getElem? (i := j - k) (by rw [List.getElem?_drop, show k + (j - k) = j by omega]; exact h2)
section
variable {nb : Int → List Int} {m : Int → Option Int} {r x : Int} {l : List Int}
theorem Rd.pos (R : Rd nb m r x l) : 0 < l.length := by have := R.odd; omega
theorem Rd.mem (R : Rd nb m r x l) : x ∈ l := List.mem_of_getElem? R.lst
/-- what stands at an odd place has its mate behind it -/
theorem Rd.next (R : Rd nb m r x l) {i : Nat} {a : Int} (h : l[i]? = some a) (o : i % 2 = 1) : ∃ b, l[i+1]? = some b ∧ m a = some b := by
  have hl := (List.getElem?_eq_some_iff.mp h).1
  have := R.odd
  have h2 : i + 1 < l.length := by omega
  exact ⟨l[i+1], List.getElem?_eq_getElem h2, R.alt i a _ o h (List.getElem?_eq_getElem h2)⟩
/-- what stands at an even place, but the first, has its mate ahead of it -/
theorem Rd.prev (M : Mt nb m) (R : Rd nb m r x l) {i : Nat} {a : Int} (h : l[i+1]? = some a) (o : i % 2 = 1) : ∃ b, l[i]? = some b ∧ m a = some b := by
  have hl := (List.getElem?_eq_some_iff.mp h).1
  have h2 : i < l.length := by omega
  exact ⟨l[i], List.getElem?_eq_getElem h2, M.sym (R.alt i _ a o (List.getElem?_eq_getElem h2) h)⟩
end
/-- the state of a search from r: E are the places that have roads, rd the roads -/
structure Sv (nb : Int → List Int) (m : Int → Option Int) (r : Int) (E : List Int) (rd : Int → List Int) : Prop where
  alone : m r = none
  ini : r ∈ E
  ini1 : rd r = [r]
  road : ∀ x ∈ E, Rd nb m r x (rd x)
  ev : ∀ x ∈ E, ∀ (i : Nat) (w : Int), i % 2 = 0 → (rd x)[i]? = some w → w ∈ E
  sig : ∀ x ∈ E, ∀ (i : Nat) (w : Int), (rd x)[i]? = some w → w ∈ E → ∀ p, p ∉ E → (p ∈ rd w ↔ p ∈ (rd x).take i)
section
variable {nb : Int → List Int} {m : Int → Option Int} {r : Int} {E : List Int} {rd : Int → List Int}
theorem Sv.start (h : m r = none) : Sv nb m r [r] (fun _ => [r]) := by
  refine ⟨h, List.mem_singleton.mpr rfl, rfl, fun x hx => ?_, fun x hx i w _ hw => ?_, fun x hx i w hw hwE p hp => ?_⟩
  · rw [List.mem_singleton.mp hx]
    refine ⟨rfl, rfl, rfl, by simp, fun i a b _ h2 => ?_, fun i a b _ _ h2 => ?_⟩
    · have := (List.getElem?_eq_some_iff.mp h2).1; simp at this
    · have := (List.getElem?_eq_some_iff.mp h2).1; simp at this
  · have := List.mem_of_getElem? hw; exact this
  · have := (List.getElem?_eq_some_iff.mp hw).1
    simp at this; subst this
    constructor
    · intro z; exact absurd z hp
    · intro z; simp at z
/-- a place without a road stands at an odd place of a road -/
theorem Sv.at_odd (S : Sv nb m r E rd) {x : Int} (hx : x ∈ E) {i : Nat} {w : Int} (h : (rd x)[i]? = some w) (hw : w ∉ E) : i % 2 = 1 := by
  by_cases c : i % 2 = 1
  · exact c
  · exact absurd (S.ev x hx i w (by omega) h) hw
/-- .. and its mate has a road -/
theorem Sv.mate_in (S : Sv nb m r E rd) {x : Int} (hx : x ∈ E) {i : Nat} {w : Int} (h : (rd x)[i]? = some w) (hw : w ∉ E) : ∃ v, (rd x)[i+1]? = some v ∧ m w = some v ∧ v ∈ E := by
  have o := S.at_odd hx h hw
  obtain ⟨v, h1, h2⟩ := (S.road x hx).next h o
  exact ⟨v, h1, h2, S.ev x hx (i+1) v (by omega) h1⟩
/-- a place whose mate has no road, too, is on no road -/
theorem Sv.off (M : Mt nb m) (S : Sv nb m r E rd) {y z : Int} (h : m y = some z) (hy : y ∉ E) (hz : z ∉ E) : ∀ x ∈ E, y ∉ rd x := fun x hx hm => by
  obtain ⟨i, hi⟩ := List.getElem?_of_mem hm
  obtain ⟨v, _, h2, h3⟩ := S.mate_in hx hi hy
  rw [h] at h2; cases h2
  exact hz h3
theorem getElem?_app2 {l : List Int} {a b : Int} {i : Nat} {w : Int} (h : (l ++ [a, b])[i]? = some w) : (i < l.length ∧ l[i]? = some w) ∨ (i = l.length ∧ w = a) ∨ (i = l.length + 1 ∧ w = b) := by
  by_cases c : i < l.length
  · rw [List.getElem?_append_left c] at h; exact .inl ⟨c, h⟩
  · rw [List.getElem?_append_right (by omega)] at h
    have hl := (List.getElem?_eq_some_iff.mp h).1
    simp at hl
    by_cases c1 : i = l.length
    · subst c1; simp at h; exact .inr (.inl ⟨rfl, h.symm⟩)
    · have e : i - l.length = 1 := by omega
      rw [e] at h; simp at h
      exact .inr (.inr ⟨by omega, h.symm⟩)
/-- the search goes over a tie and a pair -/
theorem Sv.grow (G : Gr nb) (M : Mt nb m) (S : Sv nb m r E rd) {x y z : Int} (hx : x ∈ E) (hy : y ∈ nb x) (hyE : y ∉ E) (hz : m y = some z) (hzE : z ∉ E) :
    Sv nb m r (E ++ [z]) (fun p => if p = z then rd x ++ [y, z] else rd p) := by
  have offy := S.off M hz hyE hzE
  have offz := S.off M (M.sym hz) hzE hyE
  have yz : y ≠ z := fun e => by
    have := M.tie hz; rw [e] at this; exact G.irr this
  have nz : ∀ p ∈ E, (if p = z then rd x ++ [y, z] else rd p) = rd p := fun p hp => if_neg fun e => hzE (by rw [← e]; exact hp)
  have mE : ∀ p, p ∈ E ++ [z] → p ∈ E ∨ p = z := fun p hp => by
    rcases List.mem_append.mp hp with h | h
    · exact .inl h
    · exact .inr (List.mem_singleton.mp h)
  have R := S.road x hx
  have lo := R.odd
  have l9 := R.lst
  refine ⟨S.alone, List.mem_append_left _ S.ini, ?_, fun p hp => ?_, fun p hp i w hi hw => ?_, fun p hp i w hw hwE q hq => ?_⟩
  · show (if r = z then _ else _) = _
    rw [nz r S.ini]; exact S.ini1
  · rcases mE p hp with h | rfl
    · show Rd nb m r p (if p = z then _ else _)
      rw [nz p h]; exact S.road p h
    · show Rd nb m r p (if p = p then _ else _)
      rw [if_pos rfl]
      refine ⟨?_, ?_, ?_, ?_, fun i a b h1 h2 => ?_, fun i a b hi h1 h2 => ?_⟩
      · rw [List.length_append]; simp; omega
      · rw [List.getElem?_append_left R.pos]; exact R.fst
      · rw [List.length_append]
        show (rd x ++ [y, p])[(rd x).length + 2 - 1]? = _
        rw [List.getElem?_append_right (by omega), show (rd x).length + 2 - 1 - (rd x).length = 1 by omega]; rfl
      · refine List.nodup_append.mpr ⟨R.nd, ?_, fun a ha b hb e => ?_⟩
        · simp [yz]
        · subst e
          simp at hb
          rcases hb with rfl | rfl
          · exact offy x hx ha
          · exact offz x hx ha
      · rcases getElem?_app2 h1 with ⟨c1, e1⟩ | ⟨c1, e1⟩ | ⟨c1, e1⟩
        · rcases getElem?_app2 h2 with ⟨c2, e2⟩ | ⟨c2, e2⟩ | ⟨c2, e2⟩
          · exact R.adj i a b e1 e2
          · have : i = (rd x).length - 1 := by omega
            rw [this, l9] at e1; cases e1; subst e2; exact hy
          · omega
        · rcases getElem?_app2 h2 with ⟨c2, e2⟩ | ⟨c2, e2⟩ | ⟨c2, e2⟩
          · omega
          · omega
          · subst e1; subst e2; exact M.tie hz
        · rcases getElem?_app2 h2 with ⟨c2, e2⟩ | ⟨c2, e2⟩ | ⟨c2, e2⟩ <;> omega
      · rcases getElem?_app2 h1 with ⟨c1, e1⟩ | ⟨c1, e1⟩ | ⟨c1, e1⟩
        · rcases getElem?_app2 h2 with ⟨c2, e2⟩ | ⟨c2, e2⟩ | ⟨c2, e2⟩
          · exact R.alt i a b hi e1 e2
          · omega
          · omega
        · rcases getElem?_app2 h2 with ⟨c2, e2⟩ | ⟨c2, e2⟩ | ⟨c2, e2⟩
          · omega
          · omega
          · subst e1; subst e2; exact hz
        · rcases getElem?_app2 h2 with ⟨c2, e2⟩ | ⟨c2, e2⟩ | ⟨c2, e2⟩ <;> omega
  · rcases mE p hp with h | rfl
    · simp only [nz p h] at hw
      exact List.mem_append_left _ (S.ev p h i w hi hw)
    · simp only [if_pos] at hw
      rcases getElem?_app2 hw with ⟨c1, e1⟩ | ⟨c1, e1⟩ | ⟨c1, e1⟩
      · exact List.mem_append_left _ (S.ev x hx i w hi e1)
      · omega
      · subst e1; exact List.mem_append_right _ (List.mem_singleton.mpr rfl)
  · have hqE : q ∉ E := fun h => hq (List.mem_append_left _ h)
    have hqz : q ≠ z := fun h => hq (List.mem_append_right _ (List.mem_singleton.mpr h))
    rcases mE p hp with h | rfl
    · simp only [nz p h] at hw ⊢
      rcases mE w hwE with hw' | rfl
      · simp only [nz w hw']; exact S.sig p h i w hw hw' q hqE
      · exact absurd (List.mem_of_getElem? hw) (offz p h)
    · simp only [if_pos] at hw ⊢
      rcases getElem?_app2 hw with ⟨c1, e1⟩ | ⟨c1, e1⟩ | ⟨c1, e1⟩
      · have hw' : w ∈ E := by
          rcases mE w hwE with h | rfl
          · exact h
          · exact absurd (List.mem_of_getElem? e1) (offz x hx)
        simp only [nz w hw']
        rw [List.take_append_of_le_length (by omega)]
        exact S.sig x hx i w e1 hw' q hqE
      · subst e1
        rcases mE w hwE with h | h
        · exact absurd h hyE
        · exact absurd h yz
      · subst e1 c1
        simp only [if_pos]
        rw [List.take_append, List.take_of_length_le (by omega), show (rd x).length + 1 - (rd x).length = 1 by omega]
        simp [hqz]
end
end Ge

namespace Ge
section
variable {nb : Int → List Int} {m : Int → Option Int} {r : Int} {E : List Int} {rd : Int → List Int}
/-- behind a place of the road of a that has no road and is not on the road of b, nothing is on the road of b -/
theorem Sv.apart (S : Sv nb m r E rd) {a b : Int} (ha : a ∈ E) (hb : b ∈ E) {k : Nat} {p : Int} (hk : (rd a)[k]? = some p) (hp : p ∉ E) (hpb : p ∉ rd b) {j : Nat} {w : Int} (hj : (rd a)[j]? = some w) (kj : k ≤ j) : w ∉ rd b := fun hw => by
  by_cases e : k = j
  · subst e
    rw [hk] at hj; cases hj
    exact hpb hw
  obtain ⟨i, hi⟩ := List.getElem?_of_mem hw
  by_cases hwE : w ∈ E
  · have h1 := (S.sig a ha j w hj hwE p hp).mpr (mem_take.mpr ⟨k, by omega, hk⟩)
    have h2 := (S.sig b hb i w hi hwE p hp).mp h1
    exact hpb (List.mem_of_mem_take h2)
  · obtain ⟨v, h1, h2, h3⟩ := S.mate_in ha hj hwE
    obtain ⟨v', h1', h2', h3'⟩ := S.mate_in hb hi hwE
    rw [h2] at h2'; cases h2'
    have q1 := (S.sig a ha (j+1) v h1 h3 p hp).mpr (mem_take.mpr ⟨k, by omega, hk⟩)
    have q2 := (S.sig b hb (i+1) v h1' h3 p hp).mp q1
    exact hpb (List.mem_of_mem_take q2)
/-- the road round the ring -/
theorem Sv.round (G : Gr nb) (M : Mt nb m) (S : Sv nb m r E rd) {a b : Int} (ha : a ∈ E) (hb : b ∈ E) (hab : b ∈ nb a) {k : Nat} {p : Int} (hk : (rd a)[k]? = some p) (hp : p ∉ E) (hpb : p ∉ rd b) :
    Rd nb m r p (rd b ++ ((rd a).drop k).reverse) := by
  have Ra := S.road a ha
  have Rb := S.road b hb
  have la := Ra.odd
  have lb := Rb.odd
  have ok := S.at_odd ha hk hp
  have hkl := (List.getElem?_eq_some_iff.mp hk).1
  have at2 : ∀ (i : Nat) (w : Int), (rd b).length ≤ i → (rd b ++ ((rd a).drop k).reverse)[i]? = some w → i < (rd b).length + (rd a).length - k ∧ (rd a)[(rd a).length - 1 - (i - (rd b).length)]? = some w := by
    intro i w c h
    have hl := (List.getElem?_eq_some_iff.mp h).1
    rw [List.length_append, List.length_reverse, List.length_drop] at hl
    rw [List.getElem?_append_right c, List.getElem?_reverse (by rw [List.length_drop]; omega), List.getElem?_drop, List.length_drop] at h
    refine ⟨by omega, ?_⟩
    rw [show k + ((rd a).length - k - 1 - (i - (rd b).length)) = (rd a).length - 1 - (i - (rd b).length) by omega] at h
    exact h
  refine ⟨?_, ?_, ?_, ?_, fun i u v h1 h2 => ?_, fun i u v hi h1 h2 => ?_⟩
  · rw [List.length_append, List.length_reverse, List.length_drop]; omega
  · rw [List.getElem?_append_left Rb.pos]; exact Rb.fst
  · have e : (rd b ++ ((rd a).drop k).reverse).length = (rd b).length + ((rd a).length - k) := by rw [List.length_append, List.length_reverse, List.length_drop]
    rw [e, List.getElem?_append_right (by omega), List.getElem?_reverse (by rw [List.length_drop]; omega), List.getElem?_drop, List.length_drop]
    rw [show k + ((rd a).length - k - 1 - ((rd b).length + ((rd a).length - k) - 1 - (rd b).length)) = k by omega]
    exact hk
  · refine List.nodup_append.mpr ⟨Rb.nd, List.pairwise_reverse.mpr ((Ra.nd.sublist (List.drop_sublist k (rd a))).imp fun h => Ne.symm h), fun u hu v hv e => ?_⟩
    subst e
    rw [List.mem_reverse] at hv
    obtain ⟨j, h1, h2⟩ := mem_drop.mp hv
    exact S.apart ha hb hk hp hpb h2 h1 hu
  · by_cases c : i < (rd b).length
    · rw [List.getElem?_append_left c] at h1
      by_cases c2 : i + 1 < (rd b).length
      · rw [List.getElem?_append_left c2] at h2
        exact Rb.adj i u v h1 h2
      · obtain ⟨_, q⟩ := at2 (i+1) v (by omega) h2
        have e1 : i = (rd b).length - 1 := by omega
        rw [e1, Rb.lst] at h1; cases h1
        rw [show (rd a).length - 1 - (i + 1 - (rd b).length) = (rd a).length - 1 by omega, Ra.lst] at q
        cases q
        exact G.sym hab
    · obtain ⟨c1, q1⟩ := at2 i u (by omega) h1
      obtain ⟨c2, q2⟩ := at2 (i+1) v (by omega) h2
      refine G.sym (Ra.adj ((rd a).length - 1 - (i + 1 - (rd b).length)) v u q2 ?_)
      rw [show (rd a).length - 1 - (i + 1 - (rd b).length) + 1 = (rd a).length - 1 - (i - (rd b).length) by omega]
      exact q1
  · by_cases c : i < (rd b).length
    · rw [List.getElem?_append_left c] at h1
      have c2 : i + 1 < (rd b).length := by omega
      rw [List.getElem?_append_left c2] at h2
      exact Rb.alt i u v hi h1 h2
    · obtain ⟨c1, q1⟩ := at2 i u (by omega) h1
      obtain ⟨c2, q2⟩ := at2 (i+1) v (by omega) h2
      refine M.sym (Ra.alt ((rd a).length - 1 - (i + 1 - (rd b).length)) v u (by omega) q2 ?_)
      rw [show (rd a).length - 1 - (i + 1 - (rd b).length) + 1 = (rd a).length - 1 - (i - (rd b).length) by omega]
      exact q1
/-- what a ring makes of a state -/
structure Rg (E : List Int) (rd : Int → List Int) (a b : Int) (E' : List Int) (rd' : Int → List Int) : Prop where
  sub : ∀ p ∈ E, p ∈ E'
  new : ∀ p ∈ E', p ∉ E → (p ∈ rd a ∧ p ∉ rd b) ∨ (p ∈ rd b ∧ p ∉ rd a)
  all : ∀ p, p ∉ E → (p ∈ rd a ∧ p ∉ rd b) ∨ (p ∈ rd b ∧ p ∉ rd a) → p ∈ E'
  old : ∀ p ∈ E, rd' p = rd p
  nwa : ∀ p, p ∉ E → ∀ i : Nat, (rd a)[i]? = some p → p ∉ rd b → rd' p = rd b ++ ((rd a).drop i).reverse
  nwb : ∀ p, p ∉ E → ∀ i : Nat, (rd b)[i]? = some p → p ∉ rd a → rd' p = rd a ++ ((rd b).drop i).reverse
theorem Rg.flip {a b : Int} {E' : List Int} {rd' : Int → List Int} (h : Rg E rd a b E' rd') : Rg E rd b a E' rd' :=
  ⟨h.sub, fun p h1 h2 => (h.new p h1 h2).symm, fun p h1 h2 => h.all p h1 h2.symm, h.old, h.nwb, h.nwa⟩
section
variable {a b : Int} {E' : List Int} {rd' : Int → List Int}
/-- behind such a place all get roads -/
theorem Rg.behind (S : Sv nb m r E rd) (h : Rg E rd a b E' rd') (ha : a ∈ E) (hb : b ∈ E) {k : Nat} {p : Int} (hk : (rd a)[k]? = some p) (hp : p ∉ E) (hpb : p ∉ rd b) {j : Nat} {w : Int} (hj : (rd a)[j]? = some w) (kj : k ≤ j) : w ∈ E' := by
  have n := S.apart ha hb hk hp hpb hj kj
  by_cases c : w ∈ E
  · exact h.sub w c
  · exact h.all w c (.inl ⟨List.mem_of_getElem? hj, n⟩)
theorem Rg.key (S : Sv nb m r E rd) (h : Rg E rd a b E' rd') (ha : a ∈ E) (hb : b ∈ E) {k : Nat} {p : Int} (hk : (rd a)[k]? = some p) (hp : p ∉ E) (hpb : p ∉ rd b) {q : Int} (hq : q ∉ E') : q ∈ rd b ↔ q ∈ (rd a).take k := by
  have qE : q ∉ E := fun z => hq (h.sub q z)
  constructor
  · intro z
    by_cases c : q ∈ rd a
    · obtain ⟨j, hj⟩ := List.getElem?_of_mem c
      by_cases kj : k ≤ j
      · exact absurd z (S.apart ha hb hk hp hpb hj kj)
      · exact mem_take.mpr ⟨j, by omega, hj⟩
    · exact absurd (h.all q qE (.inr ⟨z, c⟩)) hq
  · intro z
    by_cases c : q ∈ rd b
    · exact c
    · exact absurd (h.all q qE (.inl ⟨List.mem_of_mem_take z, c⟩)) hq
/-- a new road, but for those that have roads now -/
theorem Rg.new_sig (S : Sv nb m r E rd) (h : Rg E rd a b E' rd') (ha : a ∈ E) (hb : b ∈ E) {k : Nat} {p : Int} (hk : (rd a)[k]? = some p) (hp : p ∉ E) (hpb : p ∉ rd b) {q : Int} (hq : q ∉ E') : q ∈ rd' p ↔ q ∈ rd b := by
  rw [h.nwa p hp k hk hpb, List.mem_append, List.mem_reverse]
  constructor
  · rintro (z | z)
    · exact z
    · obtain ⟨j, h1, h2⟩ := mem_drop.mp z
      exact absurd (h.behind S ha hb hk hp hpb h2 h1) hq
  · exact .inl
/-- the signs of an old road -/
theorem Rg.old_sig (S : Sv nb m r E rd) (h : Rg E rd a b E' rd') (ha : a ∈ E) (hb : b ∈ E) {x : Int} (hx : x ∈ E) {i : Nat} {w : Int} (hw : (rd x)[i]? = some w) (hwa : w ∈ rd a) (hwb : w ∉ rd b) (hwE : w ∉ E) {q : Int} (hq : q ∉ E') : q ∈ rd' w ↔ q ∈ (rd x).take i := by
  have qE : q ∉ E := fun z => hq (h.sub q z)
  have wE' := h.all w hwE (.inl ⟨hwa, hwb⟩)
  have qw : q ≠ w := fun e => hq (e ▸ wE')
  obtain ⟨k, hk⟩ := List.getElem?_of_mem hwa
  obtain ⟨v, h1, h2, h3⟩ := S.mate_in hx hw hwE
  obtain ⟨v', h1', h2', h3'⟩ := S.mate_in ha hk hwE
  rw [h2] at h2'; cases h2'
  have up : ∀ {l : List Int} {j : Nat}, l[j]? = some w → (q ∈ l.take (j+1) ↔ q ∈ l.take j) := fun {l j} hj => by
    rw [List.take_succ, hj, List.mem_append]
    constructor
    · rintro (z | z)
      · exact z
      · simp at z; exact absurd z qw
    · exact .inl
  rw [h.new_sig S ha hb hk hwE hwb hq, h.key S ha hb hk hwE hwb hq, ← up hk, ← S.sig a ha (k+1) v h1' h3 q qE, S.sig x hx (i+1) v h1 h3 q qE, up hw]
theorem Rg.sig_x (S : Sv nb m r E rd) (h : Rg E rd a b E' rd') (ha : a ∈ E) (hb : b ∈ E) {x : Int} (hx : x ∈ E) {i : Nat} {w : Int} (hw : (rd x)[i]? = some w) (hwE : w ∈ E') {q : Int} (hq : q ∉ E') : q ∈ rd' w ↔ q ∈ (rd x).take i := by
  by_cases c : w ∈ E
  · rw [h.old w c]; exact S.sig x hx i w hw c q fun z => hq (h.sub q z)
  · rcases h.new w hwE c with ⟨z1, z2⟩ | ⟨z1, z2⟩
    · exact h.old_sig S ha hb hx hw z1 z2 c hq
    · exact h.flip.old_sig S hb ha hx hw z1 z2 c hq
theorem Rg.sig_new (S : Sv nb m r E rd) (h : Rg E rd a b E' rd') (ha : a ∈ E) (hb : b ∈ E) {x : Int} (hx : x ∉ E) (hxa : x ∈ rd a) (hxb : x ∉ rd b) {i : Nat} {w : Int} (hw : (rd' x)[i]? = some w) (hwE : w ∈ E') {q : Int} (hq : q ∉ E') : q ∈ rd' w ↔ q ∈ (rd' x).take i := by
  obtain ⟨k, hk⟩ := List.getElem?_of_mem hxa
  have e := h.nwa x hx k hk hxb
  have hkl := (List.getElem?_eq_some_iff.mp hk).1
  rw [e] at hw ⊢
  by_cases c : i < (rd b).length
  · rw [List.getElem?_append_left c] at hw
    rw [List.take_append_of_le_length (by omega)]
    exact h.sig_x S ha hb hb hw hwE hq
  · have hl := (List.getElem?_eq_some_iff.mp hw).1
    rw [List.length_append, List.length_reverse, List.length_drop] at hl
    rw [List.getElem?_append_right (by omega), List.getElem?_reverse (by rw [List.length_drop]; omega), List.getElem?_drop, List.length_drop] at hw
    generalize hj : k + ((rd a).length - k - 1 - (i - (rd b).length)) = j at hw
    have kj : k ≤ j := by omega
    have e2 : q ∈ (rd b ++ ((rd a).drop k).reverse).take i ↔ q ∈ rd b := by
      rw [List.take_append, List.mem_append, List.take_of_length_le (by omega)]
      constructor
      · rintro (z | z)
        · exact z
        · have z2 := List.mem_of_mem_take z
          rw [List.mem_reverse] at z2
          obtain ⟨j', h1, h2⟩ := mem_drop.mp z2
          exact absurd (h.behind S ha hb hk hx hxb h2 h1) hq
      · exact .inl
    rw [e2]
    have nw := S.apart ha hb hk hx hxb hw kj
    by_cases cE : w ∈ E
    · rw [h.old w cE, S.sig a ha j w hw cE q fun z => hq (h.sub q z), h.key S ha hb hk hx hxb hq]
      constructor
      · intro z
        obtain ⟨t, t1, t2⟩ := mem_take.mp z
        by_cases tk : k ≤ t
        · exact absurd (h.behind S ha hb hk hx hxb t2 tk) hq
        · exact mem_take.mpr ⟨t, by omega, t2⟩
      · intro z
        obtain ⟨t, t1, t2⟩ := mem_take.mp z
        exact mem_take.mpr ⟨t, by omega, t2⟩
    · exact h.new_sig S ha hb hw cE nw hq
theorem Rg.ev_new (S : Sv nb m r E rd) (h : Rg E rd a b E' rd') (ha : a ∈ E) (hb : b ∈ E) {x : Int} (hx : x ∉ E) (hxa : x ∈ rd a) (hxb : x ∉ rd b) {i : Nat} {w : Int} (hi : i % 2 = 0) (hw : (rd' x)[i]? = some w) : w ∈ E' := by
  obtain ⟨k, hk⟩ := List.getElem?_of_mem hxa
  rw [h.nwa x hx k hk hxb] at hw
  by_cases c : i < (rd b).length
  · rw [List.getElem?_append_left c] at hw
    exact h.sub w (S.ev b hb i w hi hw)
  · rw [List.getElem?_append_right (by omega)] at hw
    have z := List.mem_of_getElem? hw
    rw [List.mem_reverse] at z
    obtain ⟨j, h1, h2⟩ := mem_drop.mp z
    exact h.behind S ha hb hk hx hxb h2 h1
/-- the search goes round a ring -/
theorem Sv.ring (G : Gr nb) (M : Mt nb m) (S : Sv nb m r E rd) (ha : a ∈ E) (hb : b ∈ E) (hab : b ∈ nb a) (h : Rg E rd a b E' rd') : Sv nb m r E' rd' := by
  refine ⟨S.alone, h.sub r S.ini, (h.old r S.ini).trans S.ini1, fun x hx => ?_, fun x hx i w hi hw => ?_, fun x hx i w hw hwE q hq => ?_⟩
  · by_cases c : x ∈ E
    · rw [h.old x c]; exact S.road x c
    · rcases h.new x hx c with ⟨z1, z2⟩ | ⟨z1, z2⟩
      · obtain ⟨k, hk⟩ := List.getElem?_of_mem z1
        rw [h.nwa x c k hk z2]
        exact S.round G M ha hb hab hk c z2
      · obtain ⟨k, hk⟩ := List.getElem?_of_mem z1
        rw [h.nwb x c k hk z2]
        exact S.round G M hb ha (G.sym hab) hk c z2
  · by_cases c : x ∈ E
    · rw [h.old x c] at hw; exact h.sub w (S.ev x c i w hi hw)
    · rcases h.new x hx c with ⟨z1, z2⟩ | ⟨z1, z2⟩
      · exact h.ev_new S ha hb c z1 z2 hi hw
      · exact h.flip.ev_new S hb ha c z1 z2 hi hw
  · by_cases c : x ∈ E
    · rw [h.old x c] at hw ⊢
      exact h.sig_x S ha hb c hw hwE hq
    · rcases h.new x hx c with ⟨z1, z2⟩ | ⟨z1, z2⟩
      · exact h.sig_new S ha hb c z1 z2 hw hwE hq
      · exact h.flip.sig_new S hb ha c z1 z2 hw hwE hq
/-- behind it the two roads have the same places without roads -/
theorem Rg.same (h : Rg E rd a b E' rd') (ha : a ∈ E) (hb : b ∈ E) {q : Int} (hq : q ∉ E') : q ∈ rd' a ↔ q ∈ rd' b := by
  have qE : q ∉ E := fun z => hq (h.sub q z)
  rw [h.old a ha, h.old b hb]
  constructor
  · intro z
    by_cases c : q ∈ rd b
    · exact c
    · exact absurd (h.all q qE (.inl ⟨z, c⟩)) hq
  · intro z
    by_cases c : q ∈ rd a
    · exact c
    · exact absurd (h.all q qE (.inr ⟨z, c⟩)) hq
end
end
end Ge

namespace Ge
/-- what one comes to from a by places that are ok -/
inductive Rc (nb : Int → List Int) (ok : Int → Prop) (a : Int) : Int → Prop
  | base : Rc nb ok a a
  | step {p q : Int} (h : Rc nb ok a p) (m : q ∈ nb p) (o : ok q) : Rc nb ok a q
section
variable {nb : Int → List Int} {ok ok' : Int → Prop} {a b c : Int}
theorem Rc.mono (h : Rc nb ok a b) (f : ∀ q, ok q → ok' q) : Rc nb ok' a b := by
  induction h with
  | base => exact .base
  | step _ m o ih => exact .step ih m (f _ o)
theorem Rc.trans (h : Rc nb ok a b) (g : Rc nb ok b c) : Rc nb ok a c := by
  induction g with
  | base => exact h
  | step _ m o ih => exact .step ih m o
theorem Rc.one (m : b ∈ nb a) (o : ok b) : Rc nb ok a b := .step .base m o
theorem Rc.back (G : Gr nb) (h : Rc nb ok a b) (ha : ok a) : Rc nb ok b a := by
  induction h with
  | base => exact .base
  | @step p q h m o ih =>
    have hp : ok p := by
      cases h with
      | base => exact ha
      | step _ _ o => exact o
    exact (Rc.one (G.sym m) hp).trans ih
theorem Rc.ok_of (h : Rc nb ok a b) (ha : ok a) : ok b := by
  cases h with
  | base => exact ha
  | step _ _ o => exact o
end
/-- a place of E whose mate is not of E -/
def InB (m : Int → Option Int) (E : Int → Prop) (b : Int) : Prop := E b ∧ ∀ y, m b = some y → ¬ E y
structure Cert (n : Nat) (nb : Int → List Int) (m : Int → Option Int) (E : Int → Prop) : Prop where
  rg : ∀ {x}, E x → 0 ≤ x ∧ x < (n : Int)
  out : ∀ {x y}, E x → y ∈ nb x → ¬ E y → ∃ z, m y = some z ∧ E z
  ex : ∀ {x}, E x → ∃ b, InB m E b ∧ Rc nb E b x
  uni : ∀ {b b'}, InB m E b → InB m E b' → Rc nb E b b' → b = b'
section
variable {nb : Int → List Int} {m : Int → Option Int} {r : Int} {E : List Int} {rd : Int → List Int}
/-- the search has come to its end -/
structure Done (nb : Int → List Int) (m : Int → Option Int) (E : List Int) (rd : Int → List Int) : Prop where
  out : ∀ x ∈ E, ∀ y ∈ nb x, y ∉ E → ∃ z, m y = some z ∧ z ∈ E
  cl : ∀ x ∈ E, ∀ y ∈ E, y ∈ nb x → ∀ p, p ∉ E → (p ∈ rd x ↔ p ∈ rd y)
theorem Done.along (D : Done nb m E rd) {x y : Int} (hx : x ∈ E) (h : Rc nb (· ∈ E) x y) : ∀ p, p ∉ E → (p ∈ rd x ↔ p ∈ rd y) := by
  induction h with
  | base => exact fun p _ => Iff.rfl
  | @step p q h m o ih => exact fun z hz => (ih z hz).trans (D.cl p (h.ok_of hx) q o m z hz)
theorem Sv.ne_root (M : Mt nb m) (S : Sv nb m r E rd) {x : Int} (hx : x ∈ E) (h : x ≠ r) : ∃ (i : Nat) (y : Int), i % 2 = 1 ∧ i + 1 = (rd x).length - 1 ∧ (rd x)[i]? = some y ∧ m x = some y := by
  have R := S.road x hx
  have lo := R.odd
  have l2 : (rd x).length ≠ 1 := fun e => by
    have := R.lst
    rw [e] at this
    have f := R.fst
    rw [show 1 - 1 = 0 by rfl, f] at this
    cases this; exact h rfl
  have hl := R.lst
  rw [show (rd x).length - 1 = (rd x).length - 2 + 1 by omega] at hl
  obtain ⟨y, h1, h2⟩ := R.prev M hl (by omega)
  exact ⟨(rd x).length - 2, y, by omega, by omega, h1, h2⟩
theorem Sv.only (M : Mt nb m) (S : Sv nb m r E rd) {x : Int} (hx : x ∈ E) (h : m x = none) : x = r := by
  apply Classical.byContradiction
  intro c
  obtain ⟨_, y, _, _, _, e⟩ := S.ne_root M hx c
  rw [h] at e; cases e
theorem Sv.cert {n : Nat} (G : Gr nb) (M : Mt nb m) (S : Sv nb m r E rd) (D : Done nb m E rd) (hr : ∀ x ∈ E, 0 ≤ x ∧ x < (n : Int)) : Cert n nb m (· ∈ E) := by
  refine ⟨fun {x} h => hr x h, fun {x y} hx hy he => D.out x hx y hy he, fun {x} hx => ?_, fun {b b'} hb hb' h => ?_⟩
  · have R := S.road x hx
    -- each place at an even place of the road
    have key : ∀ (k : Nat) (w : Int), k % 2 = 0 → (rd x)[k]? = some w → ∃ b, InB m (· ∈ E) b ∧ Rc nb (· ∈ E) b w := by
      intro k
      induction k using Nat.strongRecOn with
      | ind k ih =>
        intro w hk hw
        by_cases k0 : k = 0
        · subst k0
          rw [R.fst] at hw; cases hw
          exact ⟨r, ⟨S.ini, fun y hy => by rw [S.alone] at hy; cases hy⟩, .base⟩
        · obtain ⟨k, rfl⟩ : ∃ j, k = j + 2 := ⟨k - 2, by omega⟩
          have hl := (List.getElem?_eq_some_iff.mp hw).1
          obtain ⟨y, h1, h2⟩ := R.prev M hw (by omega)
          have wE := S.ev x hx (k+2) w hk hw
          by_cases yE : y ∈ E
          · obtain ⟨u, hu⟩ : ∃ u, (rd x)[k]? = some u := ⟨_, List.getElem?_eq_getElem (by omega)⟩
            obtain ⟨b, hb, hc⟩ := ih k (by omega) u (by omega) hu
            exact ⟨b, hb, .step (.step hc (R.adj k u y hu h1) yE) (R.adj (k+1) y w h1 hw) wE⟩
          · exact ⟨w, ⟨wE, fun z hz => by rw [h2] at hz; cases hz; exact yE⟩, .base⟩
    exact key _ x (by have := R.odd; omega) R.lst
  · have al := D.along hb.1 h
    have h1 := S.ini1
    by_cases c : b = r
    · by_cases c' : b' = r
      · rw [c, c']
      · obtain ⟨i, y, o, e, h2, h3⟩ := S.ne_root M hb'.1 c'
        have q := (al y (hb'.2 y h3)).mpr (List.mem_of_getElem? h2)
        rw [c, h1, List.mem_singleton] at q
        exact absurd S.ini (q ▸ hb'.2 y h3)
    · obtain ⟨i, y, o, e, h2, h3⟩ := S.ne_root M hb.1 c
      have ny := hb.2 y h3
      by_cases c' : b' = r
      · have q := (al y ny).mp (List.mem_of_getElem? h2)
        rw [c', h1, List.mem_singleton] at q
        exact absurd S.ini (q ▸ ny)
      · obtain ⟨i', y', o', e', h2', h3'⟩ := S.ne_root M hb'.1 c'
        have ny' := hb'.2 y' h3'
        by_cases yy : y' = y
        · rw [yy] at h3'
          have := M.sym h3
          rw [M.sym h3'] at this; cases this; rfl
        · have q := (al y' ny').mpr (List.mem_of_getElem? h2')
          obtain ⟨j, hj⟩ := List.getElem?_of_mem q
          have Rb := S.road b hb.1
          have ji : j ≠ i := fun z => by rw [z, h2] at hj; cases hj; exact yy rfl
          obtain ⟨v, k1, k2, k3⟩ := S.mate_in hb.1 hj ny'
          rw [M.sym h3'] at k2
          obtain rfl : b' = v := Option.some.inj k2
          have hv := (List.getElem?_eq_some_iff.mp k1).1
          have s1 := (S.sig b hb.1 (j+1) b' k1 k3 y ny).mp ((al y ny).mp (List.mem_of_getElem? h2))
          obtain ⟨t, t1, t2⟩ := mem_take.mp s1
          have := nodup_at Rb.nd t2 h2
          have jo := S.at_odd hb.1 hj ny'
          omega
end
/-! ### a road turned -/
open Classical in
noncomputable def trn (m : Int → Option Int) (l : List Int) (p : Int) : Option Int :=
  if p ∈ l then (if l.idxOf p % 2 = 0 then l[l.idxOf p + 1]? else l[l.idxOf p - 1]?) else m p
section
variable {nb : Int → List Int} {m : Int → Option Int} {r x : Int} {l : List Int}
theorem idx_at (R : Rd nb m r x l) {i : Nat} {p : Int} (h : l[i]? = some p) : l.idxOf p = i := by
  have hm := List.mem_of_getElem? h
  have h2 : l.idxOf p < l.length := List.idxOf_lt_length_of_mem hm
  refine nodup_at R.nd (a := p) ?_ h
  rw [List.getElem?_eq_getElem h2]
  exact congrArg some (List.getElem_idxOf h2)
theorem trn_even (R : Rd nb m r x l) {i : Nat} {p : Int} (h : l[i]? = some p) (e : i % 2 = 0) : trn m l p = l[i+1]? := by
  unfold trn
  rw [if_pos (List.mem_of_getElem? h), idx_at R h, if_pos e]
theorem trn_odd (R : Rd nb m r x l) {i : Nat} {p : Int} (h : l[i+1]? = some p) (e : i % 2 = 0) : trn m l p = l[i]? := by
  unfold trn
  rw [if_pos (List.mem_of_getElem? h), idx_at R h, if_neg (by omega), show i + 1 - 1 = i by omega]
theorem trn_off {p : Int} (h : p ∉ l) : trn m l p = m p := by unfold trn; rw [if_neg h]
theorem Rd.matched (M : Mt nb m) (R : Rd nb m r x l) {p : Int} (h : p ∈ l) (hr : p ≠ r) : ∃ q, m p = some q ∧ q ∈ l := by
  obtain ⟨i, hi⟩ := List.getElem?_of_mem h
  by_cases o : i % 2 = 1
  · obtain ⟨b, h1, h2⟩ := R.next hi o
    exact ⟨b, h2, List.mem_of_getElem? h1⟩
  · cases i with
    | zero => rw [R.fst] at hi; cases hi; exact absurd rfl hr
    | succ i =>
      obtain ⟨b, h1, h2⟩ := R.prev M hi (by omega)
      exact ⟨b, h2, List.mem_of_getElem? h1⟩
theorem trn_mt (G : Gr nb) (M : Mt nb m) (hr : m r = none) (R : Rd nb m r x l) : Mt nb (trn m l) := by
  have lo := R.odd
  have both : ∀ {p q}, trn m l p = some q → trn m l q = some p ∧ q ∈ nb p := by
    intro p q h
    by_cases c : p ∈ l
    · obtain ⟨i, hi⟩ := List.getElem?_of_mem c
      by_cases e : i % 2 = 0
      · rw [trn_even R hi e] at h
        exact ⟨(trn_odd R h e).trans hi, R.adj i p q hi h⟩
      · obtain ⟨j, rfl⟩ : ∃ j, i = j + 1 := ⟨i - 1, by omega⟩
        rw [trn_odd R hi (by omega)] at h
        exact ⟨(trn_even R h (by omega)).trans hi, G.sym (R.adj j q p h hi)⟩
    · rw [trn_off c] at h
      have d : q ∉ l := fun z => by
        by_cases qr : q = r
        · have := M.sym h; rw [qr, hr] at this; cases this
        · obtain ⟨p', h1, h2⟩ := R.matched M z qr
          rw [M.sym h] at h1; cases h1
          exact c h2
      rw [trn_off d]
      exact ⟨M.sym h, M.tie h⟩
  exact ⟨fun h => (both h).1, fun h => (both h).2⟩
theorem trn_none (M : Mt nb m) (hr : m r = none) (R : Rd nb m r x l) {p : Int} : trn m l p = none ↔ p = x ∨ (m p = none ∧ p ≠ r) := by
  have lo := R.odd
  by_cases c : p ∈ l
  · obtain ⟨i, hi⟩ := List.getElem?_of_mem c
    have hil := (List.getElem?_eq_some_iff.mp hi).1
    have rhs : ¬ (m p = none ∧ p ≠ r) := fun ⟨z1, z2⟩ => by
      obtain ⟨q, h, _⟩ := R.matched M c z2
      rw [z1] at h; cases h
    by_cases e : i % 2 = 0
    · rw [trn_even R hi e]
      constructor
      · intro z
        have : i = l.length - 1 := by
          have := List.getElem?_eq_none_iff.mp z; omega
        rw [this, R.lst] at hi; cases hi; exact .inl rfl
      · rintro (z | z)
        · rw [z] at hi
          have := nodup_at R.nd hi R.lst
          exact List.getElem?_eq_none (by omega)
        · exact absurd z rhs
    · obtain ⟨j, rfl⟩ : ∃ j, i = j + 1 := ⟨i - 1, by omega⟩
      rw [trn_odd R hi (by omega)]
      constructor
      · intro z
        have := List.getElem?_eq_none_iff.mp z; omega
      · rintro (z | z)
        · rw [z] at hi
          have := nodup_at R.nd hi R.lst
          omega
        · exact absurd z rhs
  · rw [trn_off c]
    constructor
    · intro z
      exact .inr ⟨z, fun e => c (e ▸ List.mem_of_getElem? R.fst)⟩
    · rintro (z | z)
      · exact absurd (z ▸ R.mem) c
      · exact z.1
end
end Ge

namespace Ge
open Classical in
/-- the places with a property -/
noncomputable def pl (n : Nat) (P : Int → Prop) : List Int := ((List.range n).map fun i : Nat => (i : Int)).filter fun x => decide (P x)
open Classical in
theorem pl_mem {n : Nat} {P : Int → Prop} {x : Int} : x ∈ pl n P ↔ (0 ≤ x ∧ x < (n : Int)) ∧ P x := by
  unfold pl
  rw [List.mem_filter, List.mem_map]
  constructor
  · rintro ⟨⟨i, hi, rfl⟩, h⟩
    have := List.mem_range.mp hi
    exact ⟨by omega, of_decide_eq_true h⟩
  · rintro ⟨⟨a, b⟩, h⟩
    exact ⟨⟨x.toNat, List.mem_range.mpr (by omega), by omega⟩, decide_eq_true h⟩
open Classical in
theorem pl_nd {n : Nat} {P : Int → Prop} : (pl n P).Nodup := by
  unfold pl
  refine List.Nodup.sublist List.filter_sublist ?_
  refine List.pairwise_map.mpr (List.nodup_range.imp fun h e => h (by omega))
open Classical in
theorem pl_len {n : Nat} {P : Int → Prop} : (pl n P).length ≤ n := by
  unfold pl
  refine Nat.le_trans (List.length_filter_le _ _) ?_
  rw [List.length_map, List.length_range]; exact Nat.le_refl _
/-- as many at most, by a relation that goes apart -/
theorem rel_len {α β : Type} [DecidableEq β] (R : α → β → Prop) : ∀ (l : List α) (l2 : List β), l.Nodup → (∀ a ∈ l, ∃ b ∈ l2, R a b) → (∀ a ∈ l, ∀ a' ∈ l, ∀ b, R a b → R a' b → a = a') → l.length ≤ l2.length
  | [], _, _, _, _ => Nat.zero_le _
  | a :: t, l2, nd, h, inj => by
    obtain ⟨b, hb, rb⟩ := h a List.mem_cons_self
    have na := (List.nodup_cons.mp nd).1
    have key := rel_len R t (l2.erase b) (List.nodup_cons.mp nd).2 (fun a' ha' => ?_) (fun a1 h1 a2 h2 => inj a1 (List.mem_cons_of_mem _ h1) a2 (List.mem_cons_of_mem _ h2))
    · rw [List.length_erase_of_mem hb] at key
      have : 0 < l2.length := List.length_pos_of_mem hb
      rw [List.length_cons]; omega
    · obtain ⟨b', hb', rb'⟩ := h a' (List.mem_cons_of_mem _ ha')
      refine ⟨b', (List.mem_erase_of_ne fun e => ?_).mpr hb', rb'⟩
      rw [e] at rb'
      have := inj a' (List.mem_cons_of_mem _ ha') a List.mem_cons_self b rb' rb
      exact na (this ▸ ha')
theorem sub_len {l l2 : List Int} (h : l.Nodup) (s : ∀ a ∈ l, a ∈ l2) : l.length ≤ l2.length :=
  rel_len (· = ·) l l2 h (fun a ha => ⟨a, s a ha, rfl⟩) fun _ _ _ _ _ h1 h2 => h1.trans h2.symm
/-- what is paired off is even -/
theorem even_len {f : Int → Option Int} (sym : ∀ {p q}, f p = some q → f q = some p) (irr : ∀ {p}, f p ≠ some p) : ∀ (k : Nat) (l : List Int), l.length ≤ k → l.Nodup → (∀ x ∈ l, ∃ y ∈ l, f x = some y) → l.length % 2 = 0
  | _, [], _, _, _ => rfl
  | 0, a :: t, hk, _, _ => by rw [List.length_cons] at hk; omega
  | k + 1, a :: t, hk, nd, h => by
    obtain ⟨y, hy, e⟩ := h a List.mem_cons_self
    obtain ⟨na, nt⟩ := List.nodup_cons.mp nd
    have ya : y ≠ a := fun z => irr (z ▸ e)
    have yt : y ∈ t := (List.mem_cons.mp hy).resolve_left ya
    have le := List.length_erase_of_mem yt
    have lp : 0 < t.length := List.length_pos_of_mem yt
    rw [List.length_cons] at hk ⊢
    have key := even_len sym irr k (t.erase y) (by omega) (nt.erase y) fun x hx => ?_
    · omega
    · have hxt := List.mem_of_mem_erase hx
      have xy : x ≠ y := fun z => by
        rw [z] at hx
        exact (List.Nodup.mem_erase_iff nt).mp hx |>.1 rfl
      have xa : x ≠ a := fun z => na (z ▸ hxt)
      obtain ⟨z, hz, ez⟩ := h x (List.mem_cons_of_mem _ hxt)
      have za : z ≠ a := fun q => by
        rw [q] at ez
        have := sym ez
        rw [e] at this
        exact xy (Option.some.inj this).symm
      have zy : z ≠ y := fun q => by
        rw [q] at ez
        have := sym ez
        rw [sym e] at this
        exact xa (Option.some.inj this).symm
      exact ⟨z, (List.mem_erase_of_ne zy).mpr ((List.mem_cons.mp hz).resolve_left za), ez⟩
section
variable {n : Nat} {nb : Int → List Int} {m N : Int → Option Int} {E : Int → Prop}
theorem Mt.irr (G : Gr nb) (M : Mt nb m) {p : Int} : m p ≠ some p := fun h => G.irr (M.tie h)
/-- the places of E that b comes to -/
noncomputable def cls (n : Nat) (nb : Int → List Int) (E : Int → Prop) (b : Int) : List Int := pl n fun x => E x ∧ Rc nb E b x
theorem Cert.cls_mem (C : Cert n nb m E) {b x : Int} : x ∈ cls n nb E b ↔ E x ∧ Rc nb E b x := by
  unfold cls
  rw [pl_mem]
  exact ⟨fun h => h.2, fun h => ⟨C.rg h.1, h⟩⟩
/-- a class has an odd number of places -/
theorem Cert.cls_odd (G : Gr nb) (M : Mt nb m) (C : Cert n nb m E) {b : Int} (hb : InB m E b) : (cls n nb E b).length % 2 = 1 := by
  have bm : b ∈ cls n nb E b := C.cls_mem.mpr ⟨hb.1, .base⟩
  have nd : (cls n nb E b).Nodup := pl_nd
  have le := List.length_erase_of_mem bm
  have lp : 0 < (cls n nb E b).length := List.length_pos_of_mem bm
  have key := even_len M.sym (M.irr G) _ ((cls n nb E b).erase b) (Nat.le_refl _) (nd.erase b) fun x hx => ?_
  · omega
  · obtain ⟨xb, hx⟩ := (List.Nodup.mem_erase_iff nd).mp hx
    obtain ⟨hE, hR⟩ := C.cls_mem.mp hx
    have nB : ¬ InB m E x := fun z => xb (C.uni hb z hR).symm
    have : ∃ y, m x = some y ∧ E y := by
      apply Classical.byContradiction
      intro z
      exact nB ⟨hE, fun y hy hEy => z ⟨y, hy, hEy⟩⟩
    obtain ⟨y, hy, hEy⟩ := this
    have yb : y ≠ b := fun z => by
      have := M.sym hy
      rw [z] at this
      exact hb.2 x this hE
    exact ⟨y, (List.mem_erase_of_ne yb).mpr (C.cls_mem.mpr ⟨hEy, .step hR (M.tie hy) hEy⟩), hy⟩
noncomputable def Bl (n : Nat) (m : Int → Option Int) (E : Int → Prop) : List Int := pl n (InB m E)
/-- the places of E that N leaves alone -/
noncomputable def Ul (n : Nat) (E : Int → Prop) (N : Int → Option Int) : List Int := pl n fun x => E x ∧ N x = none
/-- the places beside E that N pairs with places of E -/
noncomputable def Oc (n : Nat) (E : Int → Prop) (N : Int → Option Int) : List Int := pl n fun y => ¬ E y ∧ ∃ x, E x ∧ N x = some y
/-- the places beside E -/
noncomputable def Ol (n : Nat) (nb : Int → List Int) (E : Int → Prop) : List Int := pl n fun y => ¬ E y ∧ ∃ x, E x ∧ y ∈ nb x
theorem Cert.weak (G : Gr nb) (M : Mt nb m) (C : Cert n nb m E) (hn : ∀ {p q}, q ∈ nb p → 0 ≤ q ∧ q < (n : Int)) (MN : Mt nb N) : (Bl n m E).length ≤ (Ul n E N).length + (Oc n E N).length := by
  rw [← List.length_append]
  refine rel_len (fun b t => (E t ∧ N t = none ∧ Rc nb E b t) ∨ (¬ E t ∧ ∃ x, E x ∧ Rc nb E b x ∧ N x = some t)) _ _ pl_nd (fun b hb => ?_) (fun b hb b' hb' t h1 h2 => ?_)
  · have hB := (pl_mem.mp hb).2
    apply Classical.byContradiction
    intro no
    have odd := C.cls_odd G M hB
    have ev := even_len MN.sym (MN.irr G) _ (cls n nb E b) (Nat.le_refl _) pl_nd fun x hx => ?_
    · omega
    · obtain ⟨hE, hR⟩ := C.cls_mem.mp hx
      cases e : N x with
      | none => exact absurd ⟨x, List.mem_append_left _ (pl_mem.mpr ⟨C.rg hE, hE, e⟩), .inl ⟨hE, e, hR⟩⟩ no
      | some y =>
        by_cases hy : E y
        · exact ⟨y, C.cls_mem.mpr ⟨hy, .step hR (MN.tie e) hy⟩, rfl⟩
        · exact absurd ⟨y, List.mem_append_right _ (pl_mem.mpr ⟨hn (MN.tie e), hy, x, hE, e⟩), .inr ⟨hy, x, hE, hR, e⟩⟩ no
  · have hB := (pl_mem.mp hb).2
    have hB' := (pl_mem.mp hb').2
    have fin : ∀ {x : Int}, Rc nb E b x → Rc nb E b' x → b = b' := fun h h' => C.uni hB hB' (h.trans (h'.back G hB'.1))
    rcases h1 with ⟨e1, n1, r1⟩ | ⟨e1, x, ex, r1, n1⟩
    · rcases h2 with ⟨e2, n2, r2⟩ | ⟨e2, _⟩
      · exact fin r1 r2
      · exact absurd e1 e2
    · rcases h2 with ⟨e2, _⟩ | ⟨e2, x', ex', r2, n2⟩
      · exact absurd e2 e1
      · have := MN.sym n1
        rw [MN.sym n2] at this
        cases this
        exact fin r1 r2
theorem Cert.strong (M : Mt nb m) (C : Cert n nb m E) : (Ul n E m).length + (Ol n nb E).length ≤ (Bl n m E).length := by
  rw [← List.length_append]
  refine rel_len (fun a b => (E a ∧ m a = none ∧ a = b) ∨ (¬ E a ∧ m a = some b)) _ _ ?_ (fun a ha => ?_) (fun a ha a' ha' t h1 h2 => ?_)
  · refine List.nodup_append.mpr ⟨pl_nd, pl_nd, fun x hx y hy e => ?_⟩
    subst e
    exact (pl_mem.mp hy).2.1 (pl_mem.mp hx).2.1
  · rcases List.mem_append.mp ha with h | h
    · obtain ⟨r, hE, e⟩ := pl_mem.mp h
      exact ⟨a, pl_mem.mpr ⟨r, hE, fun y hy => by rw [e] at hy; cases hy⟩, .inl ⟨hE, e, rfl⟩⟩
    · obtain ⟨r, hE, x, hx, hn⟩ := pl_mem.mp h
      obtain ⟨z, h1, h2⟩ := C.out hx hn hE
      exact ⟨z, pl_mem.mpr ⟨C.rg h2, h2, fun y hy hy2 => by rw [M.sym h1] at hy; cases hy; exact hE hy2⟩, .inr ⟨hE, h1⟩⟩
  · rcases h1 with ⟨e1, n1, r1⟩ | ⟨e1, n1⟩
    · rcases h2 with ⟨e2, n2, r2⟩ | ⟨e2, n2⟩
      · exact r1.trans r2.symm
      · have := M.sym n2
        rw [← r1, n1] at this; cases this
    · rcases h2 with ⟨e2, n2, r2⟩ | ⟨e2, n2⟩
      · have := M.sym n1
        rw [← r2, n2] at this; cases this
      · have := M.sym n1
        rw [M.sym n2] at this; cases this; rfl
theorem oc_sub (hn : ∀ {p q}, q ∈ nb p → 0 ≤ q ∧ q < (n : Int)) (MN : Mt nb N) : (Oc n E N).length ≤ (Ol n nb E).length :=
  sub_len pl_nd fun y hy => by
    obtain ⟨r, h1, x, h2, h3⟩ := pl_mem.mp hy
    exact pl_mem.mpr ⟨r, h1, x, h2, MN.tie h3⟩
/-- those alone -/
noncomputable def un (n : Nat) (m : Int → Option Int) : List Int := pl n fun x => m x = none
/-- m is greatest, and E shows it -/
structure Big (n : Nat) (nb : Int → List Int) (m : Int → Option Int) (E : Int → Prop) : Prop where
  cert : Cert n nb m E
  cov : ∀ {x}, 0 ≤ x → x < (n : Int) → m x = none → E x
  rch : ∀ {x}, E x → ∃ N, Mt nb N ∧ N x = none ∧ (un n N).length ≤ (un n m).length
theorem Big.un_ul (B : Big n nb m E) : (un n m).length ≤ (Ul n E m).length := sub_len pl_nd fun x hx => by
  obtain ⟨r, h⟩ := pl_mem.mp hx
  exact pl_mem.mpr ⟨r, B.cov r.1 r.2 h, h⟩
theorem ul_un : (Ul n E N).length ≤ (un n N).length := sub_len pl_nd fun x hx => by
  obtain ⟨r, _, h⟩ := pl_mem.mp hx
  exact pl_mem.mpr ⟨r, h⟩
theorem Big.least (G : Gr nb) (M : Mt nb m) (hn : ∀ {p q}, q ∈ nb p → 0 ≤ q ∧ q < (n : Int)) (B : Big n nb m E) (MN : Mt nb N) : (un n m).length ≤ (un n N).length := by
  have h1 := B.cert.weak G M hn MN
  have h2 := B.cert.strong M
  have h3 := oc_sub (nb := nb) (E := E) hn MN
  have h4 := B.un_ul
  have h5 := ul_un (n := n) (E := E) (N := N)
  omega
/-- what a greatest pairing leaves alone is of E -/
theorem Big.alone (G : Gr nb) (M : Mt nb m) (hn : ∀ {p q}, q ∈ nb p → 0 ≤ q ∧ q < (n : Int)) (B : Big n nb m E) (MN : Mt nb N) (h : (un n N).length ≤ (un n m).length) {x : Int} (h0 : 0 ≤ x) (h1 : x < (n : Int)) (hx : N x = none) : E x := by
  apply Classical.byContradiction
  intro c
  have a1 := B.cert.weak G M hn MN
  have a2 := B.cert.strong M
  have a3 := oc_sub (nb := nb) (E := E) hn MN
  have a4 := B.un_ul
  have a5 : (x :: Ul n E N).length ≤ (un n N).length := sub_len (List.nodup_cons.mpr ⟨fun z => c (pl_mem.mp z).2.1, pl_nd⟩) fun y hy => by
    rcases List.mem_cons.mp hy with rfl | hy
    · exact pl_mem.mpr ⟨⟨h0, h1⟩, hx⟩
    · obtain ⟨r, _, h⟩ := pl_mem.mp hy
      exact pl_mem.mpr ⟨r, h⟩
  rw [List.length_cons] at a5
  omega
/-- .. and E is what some greatest pairing leaves alone -/
theorem Big.iff (G : Gr nb) (M : Mt nb m) (hn : ∀ {p q}, q ∈ nb p → 0 ≤ q ∧ q < (n : Int)) (B : Big n nb m E) {x : Int} (h0 : 0 ≤ x) (h1 : x < (n : Int)) : E x ↔ ∃ N, Mt nb N ∧ N x = none ∧ (un n N).length ≤ (un n m).length :=
  ⟨B.rch, fun ⟨_, a, b, c⟩ => B.alone G M hn a c h0 h1 b⟩
theorem Big.count (G : Gr nb) (M : Mt nb m) (hn : ∀ {p q}, q ∈ nb p → 0 ≤ q ∧ q < (n : Int)) (B : Big n nb m E) : (Bl n m E).length = (un n m).length + (Ol n nb E).length := by
  have h1 := B.cert.weak G M hn M
  have h2 := B.cert.strong M
  have h3 := oc_sub (nb := nb) (E := E) hn M
  have h4 := B.un_ul
  have h5 := ul_un (n := n) (E := E) (N := m)
  omega
end
/-! ### the searches from all lone places -/
section
variable {n : Nat} {nb : Int → List Int} {m : Int → Option Int}
/-- a search from r that has come to its end -/
structure Srch (n : Nat) (nb : Int → List Int) (m : Int → Option Int) (r : Int) (F : Int → Prop) : Prop where
  cert : Cert n nb m F
  ini : F r
  only : ∀ {x}, F x → m x = none → x = r
  turn : ∀ {x}, F x → ∃ N, Mt nb N ∧ ∀ p, N p = none ↔ p = x ∨ (m p = none ∧ p ≠ r)
theorem Sv.srch {r : Int} {E : List Int} {rd : Int → List Int} (G : Gr nb) (M : Mt nb m) (S : Sv nb m r E rd) (D : Done nb m E rd) (hr : ∀ x ∈ E, 0 ≤ x ∧ x < (n : Int)) : Srch n nb m r (· ∈ E) :=
  ⟨S.cert G M D hr, S.ini, fun hx h => S.only M hx h, fun {x} hx => ⟨trn m (rd x), trn_mt G M S.alone (S.road x hx), fun p => trn_none M S.alone (S.road x hx)⟩⟩
theorem un_turn {N : Int → Option Int} {x r : Int} (hr0 : 0 ≤ r) (hr1 : r < (n : Int)) (hr : m r = none) (h : ∀ p, N p = none ↔ p = x ∨ (m p = none ∧ p ≠ r)) : (un n N).length ≤ (un n m).length := by
  refine rel_len (fun a b => (a = x ∧ b = r) ∨ (a ≠ x ∧ a = b)) _ _ pl_nd (fun a ha => ?_) (fun a ha a' ha' t h1 h2 => ?_)
  · obtain ⟨ra, e⟩ := pl_mem.mp ha
    by_cases c : a = x
    · exact ⟨r, pl_mem.mpr ⟨⟨hr0, hr1⟩, hr⟩, .inl ⟨c, rfl⟩⟩
    · rcases (h a).mp e with z | z
      · exact absurd z c
      · exact ⟨a, pl_mem.mpr ⟨ra, z.1⟩, .inr ⟨c, rfl⟩⟩
  · have e := (pl_mem.mp ha).2
    have e' := (pl_mem.mp ha').2
    rcases h1 with ⟨a1, b1⟩ | ⟨a1, b1⟩
    · rcases h2 with ⟨a2, b2⟩ | ⟨a2, b2⟩
      · exact a1.trans a2.symm
      · rcases (h a').mp e' with z | z
        · exact absurd z a2
        · exact absurd (b2.trans b1) z.2
    · rcases h2 with ⟨a2, b2⟩ | ⟨a2, b2⟩
      · rcases (h a).mp e with z | z
        · exact absurd z a1
        · exact absurd (b1.trans b2) z.2
      · exact b1.trans b2.symm
/-- what one search reaches lies not beside another -/
theorem Srch.apart (G : Gr nb) (M : Mt nb m) (hn : ∀ {p q}, q ∈ nb p → 0 ≤ q ∧ q < (n : Int)) {r s : Int} {F F' : Int → Prop} (S : Srch n nb m r F) (S' : Srch n nb m s F') (hr : m r = none) {x y : Int} (hx : F x) (hy : y ∈ nb x) (hyF : ¬ F y) : ¬ F' y := fun hy' => by
  obtain ⟨N, MN, hN⟩ := S'.turn hy'
  have a1 := S.cert.weak G M hn MN
  have a2 := S.cert.strong M
  have u1 : 1 ≤ (Ul n F m).length := by
    have := sub_len (l := [r]) (l2 := Ul n F m) (by simp) fun a ha => by
      rw [List.mem_singleton.mp ha]; exact pl_mem.mpr ⟨S.cert.rg S.ini, S.ini, hr⟩
    exact this
  have u2 : (Ul n F N).length ≤ 1 := by
    have := sub_len (l := Ul n F N) (l2 := [r]) pl_nd fun a ha => by
      obtain ⟨_, h1, h2⟩ := pl_mem.mp ha
      rcases (hN a).mp h2 with z | z
      · exact absurd (z ▸ h1) hyF
      · exact List.mem_singleton.mpr (S.only h1 z.1)
    exact this
  have u3 : (y :: Oc n F N).length ≤ (Ol n nb F).length := by
    refine sub_len (List.nodup_cons.mpr ⟨fun z => ?_, pl_nd⟩) fun a ha => ?_
    · obtain ⟨_, _, x', _, e⟩ := pl_mem.mp z
      have := MN.sym e
      rw [(hN y).mpr (.inl rfl)] at this; cases this
    · rcases List.mem_cons.mp ha with rfl | ha
      · exact pl_mem.mpr ⟨hn hy, hyF, x, hx, hy⟩
      · obtain ⟨ra, h1, x', h2, h3⟩ := pl_mem.mp ha
        exact pl_mem.mpr ⟨ra, h1, x', h2, MN.tie h3⟩
  rw [List.length_cons] at u3
  omega
/-- all searches have come to their ends: the pairing is greatest -/
theorem big_of (G : Gr nb) (M : Mt nb m) (hn : ∀ {p q}, q ∈ nb p → 0 ≤ q ∧ q < (n : Int)) (F : Int → Int → Prop) (S : ∀ r, 0 ≤ r → r < (n : Int) → m r = none → Srch n nb m r (F r)) :
    Big n nb m (fun x => ∃ r, 0 ≤ r ∧ r < (n : Int) ∧ m r = none ∧ F r x) := by
  have stay : ∀ {r x y : Int}, 0 ≤ r → r < (n : Int) → m r = none → F r x → y ∈ nb x → (∃ r, 0 ≤ r ∧ r < (n : Int) ∧ m r = none ∧ F r y) → F r y := fun {r x y} h0 h1 h2 hx hy ⟨s, k0, k1, k2, hs⟩ => by
    apply Classical.byContradiction
    intro c
    exact (S r h0 h1 h2).apart G M hn (S s k0 k1 k2) h2 hx hy c hs
  refine ⟨⟨fun {x} ⟨r, h0, h1, h2, hx⟩ => (S r h0 h1 h2).cert.rg hx, fun {x y} ⟨r, h0, h1, h2, hx⟩ hy hE => ?_, fun {x} ⟨r, h0, h1, h2, hx⟩ => ?_, fun {b b'} hb hb' h => ?_⟩, fun {x} h0 h1 h2 => ⟨x, h0, h1, h2, (S x h0 h1 h2).ini⟩, fun {x} ⟨r, h0, h1, h2, hx⟩ => ?_⟩
  · obtain ⟨z, e, hz⟩ := (S r h0 h1 h2).cert.out hx hy fun c => hE ⟨r, h0, h1, h2, c⟩
    exact ⟨z, e, r, h0, h1, h2, hz⟩
  · obtain ⟨b, hb, hR⟩ := (S r h0 h1 h2).cert.ex hx
    refine ⟨b, ⟨⟨r, h0, h1, h2, hb.1⟩, fun y hy hE => ?_⟩, hR.mono fun q hq => ⟨r, h0, h1, h2, hq⟩⟩
    exact hb.2 y hy (stay h0 h1 h2 hb.1 (M.tie hy) hE)
  · obtain ⟨r, h0, h1, h2, hbr⟩ := hb.1
    have go : ∀ {y : Int}, Rc nb (fun x => ∃ r, 0 ≤ r ∧ r < (n : Int) ∧ m r = none ∧ F r x) b y → Rc nb (F r) b y ∧ F r y := fun h => by
      induction h with
      | base => exact ⟨.base, hbr⟩
      | step _ hm ho ih =>
        have := stay h0 h1 h2 ih.2 hm ho
        exact ⟨.step ih.1 hm this, this⟩
    obtain ⟨g1, g2⟩ := go h
    exact (S r h0 h1 h2).cert.uni ⟨hbr, fun y hy hF => hb.2 y hy ⟨r, h0, h1, h2, hF⟩⟩ ⟨g2, fun y hy hF => hb'.2 y hy ⟨r, h0, h1, h2, hF⟩⟩ g1
  · obtain ⟨N, MN, hN⟩ := (S r h0 h1 h2).turn hx
    exact ⟨N, MN, (hN x).mpr (.inl rfl), un_turn h0 h1 h2 hN⟩
end
end Ge

namespace Ge
/-- P are the parts of the places that are ok -/
structure Pts (n : Nat) (nb : Int → List Int) (ok : Int → Prop) (P : List (List Int)) : Prop where
  is_ : ∀ L ∈ P, L.Nodup ∧ ∃ a, a ∈ L ∧ (0 ≤ a ∧ a < (n : Int)) ∧ ok a ∧ ∀ p, p ∈ L ↔ Rc nb ok a p
  all : ∀ p, 0 ≤ p → p < (n : Int) → ok p → ∃ L ∈ P, p ∈ L
  nd : P.Nodup
theorem Rc.rng {n : Nat} {nb : Int → List Int} {ok : Int → Prop} (hn : ∀ {p q}, q ∈ nb p → 0 ≤ q ∧ q < (n : Int)) {a b : Int} (h : Rc nb ok a b) (ha : 0 ≤ a ∧ a < (n : Int)) : 0 ≤ b ∧ b < (n : Int) := by
  cases h with
  | base => exact ha
  | step _ m _ => exact hn m
theorem Pts.one {n : Nat} {nb : Int → List Int} {ok : Int → Prop} {P : List (List Int)} (G : Gr nb) (Q : Pts n nb ok P) {L L' : List Int} (hL : L ∈ P) (hL' : L' ∈ P) {p : Int} (h : p ∈ L) (h' : p ∈ L') : ∀ q, q ∈ L → q ∈ L' := by
  obtain ⟨_, a, _, _, oa, ea⟩ := Q.is_ L hL
  obtain ⟨_, b, _, _, ob, eb⟩ := Q.is_ L' hL'
  intro q hq
  have h1 := (ea p).mp h
  have h2 := (eb p).mp h'
  exact (eb q).mpr (h2.trans ((h1.back G oa).trans ((ea q).mp hq)))
section
variable {n : Nat} {nb : Int → List Int} {m : Int → Option Int} {E : Int → Prop} {P : List (List Int)}
/-- beside E -/
def Bes (nb : Int → List Int) (E : Int → Prop) (y : Int) : Prop := ¬ E y ∧ ∃ x, E x ∧ y ∈ nb x
theorem ok_E {x : Int} (h : E x) : ¬ Bes nb E x := fun z => z.1 h
theorem rc_E {a p : Int} (h : Rc nb (fun y => ¬ Bes nb E y) a p) (ha : E a) : E p ∧ Rc nb E a p := by
  induction h with
  | base => exact ⟨ha, .base⟩
  | step _ hm o ih =>
    have : E _ := Classical.byContradiction fun c => o ⟨c, _, ih.1, hm⟩
    exact ⟨this, .step ih.2 hm this⟩
theorem E_rc {a p : Int} (h : Rc nb E a p) : Rc nb (fun y => ¬ Bes nb E y) a p := h.mono fun q hq => ok_E hq
theorem Big.odd_parts (G : Gr nb) (M : Mt nb m) (hn : ∀ {p q}, q ∈ nb p → 0 ≤ q ∧ q < (n : Int)) (B : Big n nb m E) (Q : Pts n nb (fun y => ¬ Bes nb E y) P)
    (eq : ∀ L ∈ P, ∀ L' ∈ P, (∀ q, q ∈ L ↔ q ∈ L') → L = L') : (P.filter fun L => decide (L.length % 2 = 1)).length = (Bl n m E).length := by
  have same : ∀ {L b}, L ∈ P → b ∈ L → InB m E b → L.length = (cls n nb E b).length := fun {L b} hL hb hB => by
    obtain ⟨nd, a, _, _, oa, ea⟩ := Q.is_ L hL
    have h1 := (ea b).mp hb
    have h2 := h1.back G oa
    have m1 : ∀ p, p ∈ L → p ∈ cls n nb E b := fun p hp => by
      have := rc_E (h2.trans ((ea p).mp hp)) hB.1
      exact B.cert.cls_mem.mpr ⟨this.1, this.2⟩
    have m2 : ∀ p, p ∈ cls n nb E b → p ∈ L := fun p hp => by
      have := (B.cert.cls_mem.mp hp).2
      exact (ea p).mpr (h1.trans (E_rc this))
    exact Nat.le_antisymm (sub_len nd m1) (sub_len pl_nd m2)
  have odd_b : ∀ {L}, L ∈ P → L.length % 2 = 1 → ∃ b, b ∈ L ∧ InB m E b := fun {L} hL ho => by
    obtain ⟨nd, a, _, ra, oa, ea⟩ := Q.is_ L hL
    by_cases c : E a
    · obtain ⟨b, hb, hR⟩ := B.cert.ex c
      exact ⟨b, (ea b).mpr ((E_rc hR).back G (ok_E hb.1)), hb⟩
    · exfalso
      have none : ∀ p, p ∈ L → ¬ E p := fun p hp hE => c (rc_E (((ea p).mp hp).back G oa) hE).1
      have key := even_len M.sym (M.irr G) _ L (Nat.le_refl _) nd fun x hx => ?_
      · omega
      · have hR := (ea x).mp hx
        have rx := hR.rng hn ra
        cases e : m x with
        | none => exact absurd (B.cov rx.1 rx.2 e) (none x hx)
        | some y =>
          refine ⟨y, (ea y).mpr (.step hR (M.tie e) fun z => ?_), rfl⟩
          obtain ⟨z1, u, hu, hyu⟩ := z
          obtain ⟨w, e2, hw⟩ := B.cert.out hu hyu z1
          rw [M.sym e] at e2; cases e2
          exact none x hx hw
  refine Nat.le_antisymm ?_ ?_
  · refine rel_len (fun L b => b ∈ L) _ _ (Q.nd.sublist List.filter_sublist) (fun L hL => ?_) (fun L hL L' hL' b h1 h2 => ?_)
    · obtain ⟨h1, h2⟩ := List.mem_filter.mp hL
      obtain ⟨b, hb, hB⟩ := odd_b h1 (of_decide_eq_true h2)
      exact ⟨b, pl_mem.mpr ⟨B.cert.rg hB.1, hB⟩, hb⟩
    · have k1 := (List.mem_filter.mp hL).1
      have k2 := (List.mem_filter.mp hL').1
      exact eq L k1 L' k2 fun q => ⟨Q.one G k1 k2 h1 h2 q, Q.one G k2 k1 h2 h1 q⟩
  · refine rel_len (fun b L => L ∈ P ∧ b ∈ L) _ _ pl_nd (fun b hb => ?_) (fun b hb b' hb' L h1 h2 => ?_)
    · obtain ⟨r, hB⟩ := pl_mem.mp hb
      obtain ⟨L, hL, hbL⟩ := Q.all b r.1 r.2 (ok_E hB.1)
      refine ⟨L, List.mem_filter.mpr ⟨hL, decide_eq_true ?_⟩, hL, hbL⟩
      rw [same hL hbL hB]; exact B.cert.cls_odd G M hB
    · obtain ⟨r, hB⟩ := pl_mem.mp hb
      obtain ⟨r', hB'⟩ := pl_mem.mp hb'
      obtain ⟨hL2, k1⟩ := h1
      have k2 := h2.2
      obtain ⟨nd, a, _, _, oa, ea⟩ := Q.is_ L hL2
      have := rc_E ((((ea b).mp k1).back G oa).trans ((ea b').mp k2)) hB.1
      exact B.cert.uni hB hB' this.2
end
end Ge

/-! a net's text, as signs -/
namespace Tx
open PySem TL
abbrev P2 := Int × Int
def lt2 (p q : P2) : Prop := p.1 < q.1 ∨ (p.1 = q.1 ∧ p.2 < q.2)
instance (p q : P2) : Decidable (lt2 p q) := by unfold lt2; infer_instance
def tw (p : P2) : List Nat := numL p.1.toNat ++ 45 :: numL p.2.toNat
def tail (ts : List P2) : List Nat := ts.flatMap fun p => 32 :: tw p
def txt (n : Nat) (ts : List P2) : List Nat := numL n ++ 58 :: tail ts
theorem join_tail : ∀ (ts : List P2) (x : List Nat), joinL [32] (x :: ts.map tw) = x ++ tail ts
  | [], x => by show x = x ++ []; rw [List.append_nil]
  | p :: ts, x => by
    show x ++ ([32] ++ joinL [32] (tw p :: ts.map tw)) = _
    rw [join_tail ts (tw p)]
    unfold tail
    rw [List.flatMap_cons]; rfl
theorem txt_join (n : Nat) (ts : List P2) : txt n ts = joinL [32] ((numL n ++ [58]) :: ts.map tw) := by
  rw [join_tail]; unfold txt; rw [List.append_assoc]; rfl
theorem tw_free (p : P2) : 32 ∉ tw p := by
  unfold tw
  rw [List.mem_append, List.mem_cons]
  rintro (h | h | h)
  · exact numL_free (.inl (by decide)) h
  · exact absurd h (by decide)
  · exact numL_free (.inl (by decide)) h
theorem spl_txt (n : Nat) (ts : List P2) : spl [32] 0 [] (txt n ts) = (numL n ++ [58]) :: ts.map tw := by
  rw [txt_join]
  refine spl_join (by simp) fun p hp => ?_
  rcases List.mem_cons.mp hp with rfl | hp
  · rw [List.mem_append, List.mem_singleton]
    rintro (h | h)
    · exact numL_free (.inl (by decide)) h
    · exact absurd h (by decide)
  · obtain ⟨q, _, rfl⟩ := List.mem_map.mp hp
    exact tw_free q
theorem par_txt (n : Nat) (ts : List P2) : par [58] [] (txt n ts) = some (numL n, tail ts) := by
  have h := par_part1 (s := 58) (S := []) (p := numL n) (rest := tail ts) (acc := []) (numL_free (.inr (by decide)))
  rw [List.nil_append] at h
  exact h
theorem spl_tail (ts : List P2) : spl [32] 0 [] (tail ts) = [] :: ts.map tw := by
  have e : tail ts = joinL [32] ([] :: ts.map tw) := by rw [join_tail, List.nil_append]
  rw [e]
  refine spl_join (by simp) fun p hp => ?_
  rcases List.mem_cons.mp hp with rfl | hp
  · exact fun z => by cases z
  · obtain ⟨q, _, rfl⟩ := List.mem_map.mp hp
    exact tw_free q
theorem par_tw (p : P2) : par [45] [] (tw p) = some (numL p.1.toNat, numL p.2.toNat) := by
  have h := par_part1 (s := 45) (S := []) (p := numL p.1.toNat) (rest := numL p.2.toNat) (acc := []) (numL_free (.inl (by decide)))
  rw [List.nil_append] at h
  exact h
/-! ### what was cut, put together -/
theorem pre_one {s c : Nat} {r : List Nat} : pre [s] (c :: r) = true ↔ c = s := by
  show ([c] == [s]) = true ↔ _
  rw [beq_iff_eq]
  exact ⟨fun h => by injection h, fun h => by rw [h]⟩
theorem spl_ne (s : Nat) (acc l : List Nat) : spl [s] 0 acc l ≠ [] := by
  induction l generalizing acc with
  | nil => rw [spl_nil]; simp
  | cons c r ih =>
    by_cases h : pre [s] (c :: r) = true
    · rw [spl_hit h]; simp
    · rw [spl_miss (Bool.eq_false_iff.mpr h)]; exact ih _
theorem join_spl (s : Nat) : ∀ (l acc : List Nat), joinL [s] (spl [s] 0 acc l) = acc ++ l
  | [], acc => by rw [spl_nil, List.append_nil]; rfl
  | c :: r, acc => by
    by_cases h : pre [s] (c :: r) = true
    · rw [spl_hit h]
      have ih := join_spl s r []
      rw [List.nil_append] at ih
      have ne := spl_ne s [] r
      obtain rfl := pre_one.mp h
      show joinL [c] (acc :: spl [c] 0 [] r) = _
      cases e : spl [c] 0 [] r with
      | nil => exact absurd e ne
      | cons x X =>
        rw [e] at ih
        show acc ++ ([c] ++ joinL [c] (x :: X)) = _
        rw [ih]; rfl
    · rw [spl_miss (Bool.eq_false_iff.mpr h), join_spl s r, List.append_assoc]; rfl
theorem par_back (s : Nat) : ∀ (l acc a b : List Nat), par [s] acc l = some (a, b) → ∃ u, a = acc ++ u ∧ l = u ++ s :: b ∧ s ∉ u
  | [], acc, a, b, h => by cases h
  | c :: r, acc, a, b, h => by
    by_cases hc : pre [s] (c :: r) = true
    · rw [par_hit hc] at h
      injection h with h
      injection h with h1 h2
      obtain rfl := pre_one.mp hc
      exact ⟨[], by rw [List.append_nil]; exact h1.symm, by rw [List.nil_append, ← h2]; rfl, fun z => by cases z⟩
    · rw [par_miss (Bool.eq_false_iff.mpr hc)] at h
      obtain ⟨u, e1, e2, e3⟩ := par_back s r _ a b h
      refine ⟨c :: u, by rw [e1, List.append_assoc]; rfl, by rw [e2]; rfl, fun z => ?_⟩
      rcases List.mem_cons.mp z with z | z
      · exact hc (pre_one.mpr z.symm)
      · exact e3 z
theorem par_no {s : Nat} {l : List Nat} (h : par [s] [] l = none) : s ∉ l := fun hm => by
  obtain ⟨u, v, e⟩ := List.append_of_mem hm
  -- the first one
  have key : ∀ (l acc : List Nat), s ∈ l → par [s] acc l ≠ none := by
    intro l
    induction l with
    | nil => intro _ z; cases z
    | cons c r ih =>
      intro acc z hn
      by_cases hc : pre [s] (c :: r) = true
      · rw [par_hit hc] at hn; cases hn
      · rw [par_miss (Bool.eq_false_iff.mpr hc)] at hn
        rcases List.mem_cons.mp z with z | z
        · exact hc (pre_one.mpr z.symm)
        · exact ih _ z hn
  exact key l [] hm h
/-! ### what the program reads -/
def digB (w : List Nat) : Bool := w.all fun c => decide (48 ≤ c ∧ c ≤ 57)
theorem digB_iff {w : List Nat} : digB w = true ↔ NumText.AllDigits w := by
  unfold digB NumText.AllDigits
  rw [List.all_eq_true]
  exact ⟨fun h c hc => of_decide_eq_true (h c hc), fun h c hc => decide_eq_true (h c hc)⟩
def numIn (w : List Nat) : Option Nat := if w.length = 0 ∨ 2 < w.length ∨ digB w = false then none else some (NumText.digitsVal w)
theorem numL_small {k : Nat} (h : k < 100) : (numL k).length ≤ 2 := numL_len (by decide) h
theorem numIn_num {k : Nat} (h : k < 100) : numIn (numL k) = some k := by
  have l := numL_small h
  have ne := numL_ne k
  have d := digB_iff.mpr (numL_digits k)
  unfold numIn
  rw [if_neg, numL_val]
  rintro (z | z | z)
  · exact ne (List.length_eq_zero_iff.mp z)
  · omega
  · rw [d] at z; cases z
def tieIn (w : List Nat) : Option Nat × Option Nat := match par [45] [] w with
  | some (a, b) => (numIn a, numIn b)
  | none => (numIn w, numIn [])
def rdp (l : List Nat) : Option Nat × List (Option Nat × Option Nat) := match par [58] [] l with
  | some (a, b) => (numIn a, ((spl [32] 0 [] b).drop 1).map tieIn)
  | none => (numIn l, ((spl [32] 0 [] []).drop 1).map tieIn)
theorem tieIn_tw {p : P2} (h1 : p.1 < 100) (h2 : p.2 < 100) : tieIn (tw p) = (some p.1.toNat, some p.2.toNat) := by
  unfold tieIn
  rw [par_tw]
  show (numIn _, numIn _) = _
  rw [numIn_num (by omega), numIn_num (by omega)]
theorem rdp_txt {n : Nat} {ts : List P2} (h : n < 100) (ht : ∀ p ∈ ts, p.1 < 100 ∧ p.2 < 100) : rdp (txt n ts) = (some n, ts.map fun p => (some p.1.toNat, some p.2.toNat)) := by
  unfold rdp
  rw [par_txt]
  show (numIn _, _) = _
  rw [numIn_num h, spl_tail, List.drop_succ_cons, List.drop_zero, List.map_map]
  congr 1
  exact List.map_congr_left fun p hp => tieIn_tw (ht p hp).1 (ht p hp).2
/-- a size and ties that make a net, the ties rising -/
structure Can (n : Nat) (ts : List P2) : Prop where
  lo : 1 ≤ n
  hi : n ≤ 40
  tie : ∀ p ∈ ts, 0 ≤ p.1 ∧ p.1 < p.2 ∧ p.2 < (n : Int)
  up : ts.Pairwise lt2
theorem Can.lt (C : Can n ts) : ∀ p ∈ ts, p.1 < 100 ∧ p.2 < 100 := fun p hp => by
  obtain ⟨a, b, c⟩ := C.tie p hp
  have := C.hi
  omega
theorem Can.rd (C : Can n ts) : rdp (txt n ts) = (some n, ts.map fun p => (some p.1.toNat, some p.2.toNat)) := rdp_txt (by have := C.hi; omega) C.lt
def bk (x : Option Nat × Option Nat) : P2 := (((x.1.getD 0 : Nat) : Int), ((x.2.getD 0 : Nat) : Int))
theorem Can.bk (C : Can n ts) : (ts.map fun p => (some p.1.toNat, some p.2.toNat)).map bk = ts := by
  rw [List.map_map]
  have : ∀ p ∈ ts, (Tx.bk ∘ fun p : P2 => (some p.1.toNat, some p.2.toNat)) p = p := fun p hp => by
    obtain ⟨a, b, c⟩ := C.tie p hp
    show (((p.1.toNat : Nat) : Int), ((p.2.toNat : Nat) : Int)) = p
    exact Prod.ext (by show ((p.1.toNat : Nat) : Int) = p.1; omega) (by show ((p.2.toNat : Nat) : Int) = p.2; omega)
  rw [List.map_congr_left this, List.map_id']
theorem Can.inj {n' : Nat} {ts' : List P2} (C : Can n ts) (C' : Can n' ts') (e : txt n ts = txt n' ts') : n = n' ∧ ts = ts' := by
  have h := C.rd
  rw [e, C'.rd] at h
  injection h with h1 h2
  injection h1 with h1
  refine ⟨h1.symm, ?_⟩
  have := congrArg (List.map Tx.bk) h2
  rw [C.bk, C'.bk] at this
  exact this.symm
/-- a text of a net -/
def canB (l : List Nat) : Bool := match (rdp l).1 with
  | none => false
  | some n => decide (1 ≤ n ∧ n ≤ 40) && (((rdp l).2.map bk).all fun p => decide (0 ≤ p.1 ∧ p.1 < p.2 ∧ p.2 < (n : Int))) && decide (((rdp l).2.map bk).Pairwise lt2) && decide (txt n ((rdp l).2.map bk) = l)
theorem Can.canB (C : Can n ts) : canB (txt n ts) = true := by
  unfold Tx.canB
  rw [C.rd]
  show (decide (1 ≤ n ∧ n ≤ 40) && _ && _ && _) = true
  rw [C.bk]
  simp only [Bool.and_eq_true, decide_eq_true_eq, List.all_eq_true]
  exact ⟨⟨⟨⟨C.lo, C.hi⟩, C.tie⟩, C.up⟩, trivial⟩
theorem no_can {l : List Nat} (h : Tx.canB l = false) {n : Nat} {ts : List P2} (C : Can n ts) : l ≠ txt n ts := fun e => by
  rw [e, C.canB] at h; cases h
/-! ### what the law reads -/
def numO (w : List Nat) : Option Nat := (List.range 100).find? fun k => decide (numL k = w)
theorem numO_some {w : List Nat} {k : Nat} : numO w = some k ↔ k < 100 ∧ numL k = w := by
  unfold numO
  constructor
  · intro h
    have h1 := List.mem_of_find?_eq_some h
    have h2 := List.find?_some h
    exact ⟨List.mem_range.mp h1, of_decide_eq_true h2⟩
  · rintro ⟨h1, h2⟩
    cases e : (List.range 100).find? fun k => decide (numL k = w) with
    | none =>
      have := List.find?_eq_none.mp e k (List.mem_range.mpr h1)
      rw [decide_eq_true h2] at this
      exact absurd rfl this
    | some j =>
      have h3 := List.find?_some e
      have h4 : numL j = w := of_decide_eq_true (by simpa using h3)
      rw [numL_inj (h4.trans h2.symm)]
theorem numO_none {w : List Nat} : numO w = none ↔ ∀ k, k < 100 → numL k ≠ w := by
  constructor
  · intro h k hk e
    rw [numO_some.mpr ⟨hk, e⟩] at h; cases h
  · intro h
    cases e : numO w with
    | none => rfl
    | some k => obtain ⟨h1, h2⟩ := numO_some.mp e; exact absurd h2 (h k h1)
def tieO (w : List Nat) (m : Int) : Option P2 := match par [45] [] w with
  | some (u, v) => match numO u, numO v with
    | some a, some b => if (a : Int) < b ∧ (b : Int) < m then some ((a : Int), (b : Int)) else none
    | _, _ => none
  | none => none
theorem tieO_some {w : List Nat} {m : Int} {p : P2} (h : tieO w m = some p) : w = tw p ∧ 0 ≤ p.1 ∧ p.1 < p.2 ∧ p.2 < m := by
  unfold tieO at h
  cases e : par [45] [] w with
  | none => rw [e] at h; cases h
  | some uv =>
    obtain ⟨u, v⟩ := uv
    rw [e] at h
    obtain ⟨u', e1, e2, _⟩ := par_back 45 _ _ _ _ e
    rw [List.nil_append] at e1
    subst e1
    cases ea : numO u with
    | none => simp only [ea] at h; cases h
    | some a =>
      cases eb : numO v with
      | none => simp only [ea, eb] at h; cases h
      | some b =>
        simp only [ea, eb] at h
        by_cases c : (a : Int) < b ∧ (b : Int) < m
        · rw [if_pos c] at h
          injection h with h
          subst h
          obtain ⟨_, ha⟩ := numO_some.mp ea
          obtain ⟨_, hb⟩ := numO_some.mp eb
          refine ⟨?_, by show (0 : Int) ≤ a; omega, c.1, c.2⟩
          rw [e2, ← ha, ← hb]; rfl
        · rw [if_neg c] at h; cases h
theorem tieO_tw {p : P2} {m : Int} (h0 : 0 ≤ p.1) (h1 : p.1 < p.2) (h2 : p.2 < m) (h3 : m ≤ 100) : tieO (tw p) m = some p := by
  unfold tieO
  rw [par_tw]
  have ea : numO (numL p.1.toNat) = some p.1.toNat := numO_some.mpr ⟨by omega, rfl⟩
  have eb : numO (numL p.2.toNat) = some p.2.toNat := numO_some.mpr ⟨by omega, rfl⟩
  simp only [ea, eb]
  rw [if_pos ⟨by omega, by omega⟩]
  congr 1
  exact Prod.ext (by show ((p.1.toNat : Nat) : Int) = p.1; omega) (by show ((p.2.toNat : Nat) : Int) = p.2; omega)
theorem tw_len (p : P2) : 3 ≤ (tw p).length := by
  have h1 := List.length_pos_iff.mpr (numL_ne p.1.toNat)
  have h2 := List.length_pos_iff.mpr (numL_ne p.2.toNat)
  unfold tw
  rw [List.length_append, List.length_cons]; omega
end Tx

/-! a for loop over a text; texts' lengths -/
namespace Fs
open PySem PySem.Spec PyProof.Rows L2 TL
theorem for_str {x : Str} {g : TG} {tb : TS} {D : Ends} {σ : L2.St} {H : Hp} (Pv : Nat → L2.St → Hp → Prop) (h0 : Pv 0 σ H)
    (hs : ∀ i c σ H, x.cps.toList[i]? = some c → Pv i σ H → g (.str ⟨#[c]⟩) σ H fun σ2 H2 => tb { D with nx := Pv (i + 1), ct := Pv (i + 1), bk := D.nx } σ2 H2) (hd : ∀ σ H, Pv x.cps.toList.length σ H → D.nx σ H) :
    ∃ W : Nat → Nat → L2.St → Hp → Prop, (∃ m, W 0 m σ H) ∧ ∀ i m σ H, W i m σ H →
      ((Its x).stop i H ∧ D.nx σ H) ∨ ((Its x).go i H ∧ ∃ N : L2.St → Hp → Prop, (∀ σ' H', N σ' H' → ∃ m', m' < m ∧ W (i + 1) m' σ' H') ∧ ∀ v H', (Its x).yld i H v H' → g v σ H' fun σ2 H2 => tb { D with nx := N, ct := N, bk := D.nx } σ2 H2) := by
  refine ⟨fun i m σ H => m = x.cps.toList.length - i ∧ i ≤ x.cps.toList.length ∧ Pv i σ H, ⟨x.cps.toList.length, (Nat.sub_zero _).symm, Nat.zero_le _, h0⟩, ?_⟩
  rintro i m σ H ⟨rfl, hi, p⟩
  by_cases c : i < x.cps.toList.length
  · refine .inr ⟨by rw [Array.length_toList] at c; exact c, Pv (i + 1), fun σ' H' q => ⟨x.cps.toList.length - (i + 1), by omega, rfl, c, q⟩, ?_⟩
    rintro v H' ⟨rfl, k, e, rfl⟩
    exact hs i k σ _ (by rw [Array.getElem?_toList]; exact e) p
  · obtain rfl : i = x.cps.toList.length := by omega
    refine .inl ⟨?_, hd _ _ p⟩
    rw [Array.length_toList]; exact Nat.le_refl _
/-- f'..', its reading by name -/
def tJd (ts : List TE) : TE := fun σ H Q => tJs ts Str.empty σ H fun out H1 => Q (.str out) H1
theorem pe_jd {X : Cx} {v1 v2 : Expr} {rest : List Expr} {ts : List TE} {pos : Pos} (h : PJ X (v1 :: v2 :: rest) ts) : PE X (.JoinedStr (v1 :: v2 :: rest) pos) (tJd ts) := pe_joined h
theorem len_app (x y : Str) : (x ++ y).length = x.length + y.length := by rw [len_tl, len_tl, len_tl, tl_append, List.length_append]
theorem join_nil : ∀ ps : List (List Nat), joinL [] ps = ps.flatten
  | [] => rfl
  | [p] => by show p = p ++ []; rw [List.append_nil]
  | p :: q :: r => by
    show p ++ ([] ++ joinL [] (q :: r)) = p ++ (q :: r).flatten
    rw [List.nil_append, join_nil (q :: r)]
/-! slices of texts -/
theorem six_neg {n d k : Nat} (h : 0 < k) : HT.sIx n d (some (-(k : Int))) = n - k := by
  show (if -(k : Int) < 0 then (-(k : Int) + (n : Int)).toNat else min (-(k : Int)).toNat n) = n - k
  rw [if_pos (by omega)]; omega
theorem cut_to (z : Str) (k : Nat) : tl (cutS z none (some (k : Int))) = (tl z).take k := by
  unfold cutS
  rw [HT.sIx_nat, show HT.sIx z.length 0 none = 0 from rfl, List.drop_zero, Nat.sub_zero, tl_mk, len_tl]
  by_cases c : k ≤ (tl z).length
  · rw [Nat.min_eq_left c]
  · rw [Nat.min_eq_right (by omega), List.take_of_length_le (Nat.le_refl _), List.take_of_length_le (by omega)]
theorem cut_from (z : Str) (k : Nat) : tl (cutS z (some (k : Int)) none) = (tl z).drop k := by
  unfold cutS
  rw [HT.sIx_nat, show HT.sIx z.length z.length none = z.length from rfl, tl_mk, len_tl]
  by_cases c : k ≤ (tl z).length
  · rw [Nat.min_eq_left c, List.take_of_length_le (by rw [List.length_drop]; exact Nat.le_refl _)]
  · rw [Nat.min_eq_right (by omega), List.drop_eq_nil_of_le (by exact Nat.le_refl _), List.drop_eq_nil_of_le (by omega), List.take_nil]
theorem cut_toN (z : Str) {k : Nat} (h : 0 < k) : tl (cutS z none (some (-(k : Int)))) = (tl z).take ((tl z).length - k) := by
  unfold cutS
  rw [six_neg h, show HT.sIx z.length 0 none = 0 from rfl, List.drop_zero, Nat.sub_zero, tl_mk, len_tl]
theorem cut_fromN (z : Str) {k : Nat} (h : 0 < k) : tl (cutS z (some (-(k : Int))) none) = (tl z).drop ((tl z).length - k) := by
  unfold cutS
  rw [six_neg h, show HT.sIx z.length z.length none = z.length from rfl, tl_mk, len_tl, List.take_of_length_le (by rw [List.length_drop]; exact Nat.le_refl _)]
/-- the first place of a sign -/
theorem find_par {x y : Str} {s : Nat} (ey : tl y = [s]) : (Txt.find x y = -1 ∧ par [s] [] (tl x) = none) ∨ ∃ i : Nat, Txt.find x y = (i : Int) ∧ i < (tl x).length ∧ par [s] [] (tl x) = some ((tl x).take i, (tl x).drop (i + 1)) := by
  have hy : tl y ≠ [] := by rw [ey]; simp
  have hl : y.length = 1 := by rw [len_tl, ey]; rfl
  rcases PyProof.Rows.find_whole x y with ⟨e, hn⟩ | ⟨i, e, hi, hn⟩
  · refine .inl ⟨e, ?_⟩
    have run := par_run (tl y) (tl x) (tl x).length 0 [] (by omega) (fun k _ _ => no_at hy (hn k))
    rw [List.drop_zero, Nat.zero_add, List.drop_length, ey] at run
    rw [run]; rfl
  · have hb : i + y.length ≤ x.length := hi.1
    rw [hl, len_tl] at hb
    refine .inr ⟨i, e, by omega, ?_⟩
    have run := par_run (tl y) (tl x) i 0 [] (by omega) (fun k _ k2 => no_at hy (hn k (by omega)))
    rw [List.drop_zero, Nat.zero_add, List.nil_append, par_at hy ((at_iff hy i).mp hi), ey] at run
    exact run
theorem join_len (s : Nat) : ∀ (x : List Nat) (ps : List (List Nat)), (joinL [s] (x :: ps)).length = x.length + (ps.map fun p => p.length + 1).sum
  | x, [] => by show x.length = x.length + 0; rfl
  | x, p :: ps => by
    show (x ++ ([s] ++ joinL [s] (p :: ps))).length = _
    rw [List.length_append, List.length_append, join_len s p ps, List.map_cons, List.sum_cons, List.length_singleton]; omega
end Fs

/-! set(xs) of a list of tuples, some of them told twice: up to 1199 members. -/
namespace Bs
open PySem PySem.Spec PyProof.Rows L2
abbrev mtO (w : World) : Obj := { cls := .type "set", dict := none, data := .set #[] 0 (.fresh 0 0 (!w.params.followText "set-order")) }
abbrev mtS (w : World) (s : Shared) : Shared := { s with heap := s.heap.push (mtO w) }
/-- what the first i items have brought -/
structure Has (ks : List (Addr × List Int)) (i : Nat) (L : List (Addr × List Int)) : Prop where
  inn : ∀ p ∈ L, p ∈ ks.take i
  all : ∀ p ∈ ks.take i, p.2 ∈ L.map (·.2)
  few : L.length ≤ i
theorem Has.nil (ks : List (Addr × List Int)) : Has ks 0 [] := ⟨fun _ z => (by cases z), fun _ z => (by rw [List.take_zero] at z; cases z), Nat.le_refl _⟩
theorem Has.two {ks L : List (Addr × List Int)} {i : Nat} {x : Addr × List Int} (g : Has ks i L) (h : ks[i]? = some x) (m : x.2 ∈ L.map (·.2)) : Has ks (i + 1) L := by
  have e : ks.take (i + 1) = ks.take i ++ [x] := by rw [List.take_succ, h]; rfl
  refine ⟨fun q hq => by rw [e]; exact List.mem_append_left _ (g.inn q hq), fun q hq => ?_, by have := g.few; omega⟩
  rw [e] at hq
  rcases List.mem_append.mp hq with z | z
  · exact g.all q z
  · rw [List.mem_singleton] at z; exact z ▸ m
theorem Has.one {ks L L' : List (Addr × List Int)} {i : Nat} {x : Addr × List Int} (g : Has ks i L) (h : ks[i]? = some x) (pm : L'.Perm (x :: L)) : Has ks (i + 1) L' := by
  have e : ks.take (i + 1) = ks.take i ++ [x] := by rw [List.take_succ, h]; rfl
  refine ⟨fun q hq => ?_, fun q hq => ?_, by have := g.few; rw [pm.length_eq, List.length_cons]; omega⟩
  · rw [e]
    rcases List.mem_cons.mp (pm.mem_iff.mp hq) with z | z
    · exact List.mem_append_right _ (by rw [z]; exact List.mem_cons_self)
    · exact List.mem_append_left _ (g.inn q z)
  · have e2 := (pm.map (·.2)).mem_iff (a := q.2)
    rw [e2, List.map_cons]
    rw [e] at hq
    rcases List.mem_append.mp hq with z | z
    · exact List.mem_cons_of_mem _ (g.all q z)
    · rw [List.mem_singleton] at z; rw [z]; exact List.mem_cons_self
section
variable {P : Program} {w : World} {A : Around} {E : Value → Shared → Prop} {s : Shared}
theorem tup_on {h h' : Heap} {k : List Int} {b : Addr} (x : IsT P w h k b) (on : ∀ c o, h.get? c = some o → h'.get? c = some o) : IsT P w h' k b := by
  obtain ⟨ob, its, m, e, z⟩ := x
  exact ⟨ob, its, m, on _ _ e, z⟩
theorem At.on {h h' : Heap} {a : Addr} {L : List (Addr × List Int)} {es : Array (Int × Value)} {ep : Nat} {t : SetTable} (R : At P w h a L es ep t) (oa : ∀ o, h.get? a = some o → h'.get? a = some o) (tu : ∀ p ∈ L, IsT P w h' p.2 p.1) : At P w h' a L es ep t := by
  obtain ⟨ob, e, z⟩ := R.ob
  exact ⟨⟨ob, oa _ e, z⟩, R.rw_, R.tb, R.nd, tu, R.pl, R.ld, R.rm, R.fw⟩
/-- the loop of set.update, over tuples -/
theorem upd_loop {I : Addr} {fp wr : List Addr} {G : Array GenState → Array GenState → Prop} {n : Nat} {Pv : Nat → Value → Prop} {St : Nat → Shared → Prop} {R : Result → Shared → Prop}
    (W : WalksS P w A.in1 I fp wr G n Pv St) (S : Addr) (nS : S ∉ fp) (ks : List (Addr × List Int)) (ln : n = ks.length) (fw : ks.length + 1 < 1200) (vl : ∀ i v, Pv i v → ∃ p, ks[i]? = some p ∧ v = .ref p.1)
    (B : Heap) (tu : ∀ p ∈ ks, IsT P w B p.2 p.1) (BS : B.get? S = none) (Bw : ∀ b ∈ wr, B.get? b = none) (un : A.in1.units < cLine) :
    ∀ (m i : Nat) (s : Shared), n - i = m → i ≤ n → St i s → (∀ b o, B.get? b = some o → s.heap.get? b = some o) → (∃ L es ep t, At P w s.heap S L es ep t ∧ Has ks i L) →
      (∀ s' L es ep t, Moved (S :: wr) G s s' → At P w s'.heap S L es ep t → Has ks n L → (∀ b o, B.get? b = some o → s'.heap.get? b = some o) → R (.ok (.ret .none)) s') →
      codeAny (model P w) A (.builtin "set.update.loop" ⟨[.ref S, .ref I], []⟩) R s := by
  have out : S ∉ wr := fun z => nS (W.sub _ z)
  have up1 : ∀ b ∈ wr, b ∈ S :: wr := fun _ z => List.mem_cons_of_mem _ z
  have stay : ∀ {s1 s2 : Shared}, Moved wr G s1 s2 → (∀ b o, B.get? b = some o → s1.heap.get? b = some o) → ∀ b o, B.get? b = some o → s2.heap.get? b = some o := fun mv k b o e =>
    mv.heap b o (fun z => by have := Bw b z; rw [this] at e; cases e) (k b o e)
  intro m
  induction m with
  | zero =>
    intro i s em li st kp ⟨L, es, ep, t, hA, g⟩ fin
    obtain rfl : i = n := by omega
    refine codeAny_builtin F.entry_set_update_loop ?_
    rw [Around.under_plainId F.plain_set_update_loop _]
    show wpAny _ A.in1 (pyNext (.ref I) >>= _) _ _ s
    refine wpAny_bind (W.done s _ _ st fun s2 mv => ?_)
    show wpAny _ A.in1 (ret Value.none) _ _ s2
    have kp2 := stay mv kp
    exact wpAny_pure (fin s2 L es ep t (mv.mono up1) (hA.on (fun o e => mv.heap S o out e) fun p hp => tup_on (tu p (List.mem_of_mem_take (g.inn p hp))) kp2) g kp2)
  | succ m ih =>
    intro i s em li st kp ⟨L, es, ep, t, hA, g⟩ fin
    have lt : i < n := by omega
    refine codeAny_builtin F.entry_set_update_loop ?_
    rw [Around.under_plainId F.plain_set_update_loop _]
    show wpAny _ A.in1 (pyNext (.ref I) >>= _) _ _ s
    refine wpAny_bind (W.item i s _ _ lt st fun v s2 hv st2 mv => ?_)
    obtain ⟨p, hp, rfl⟩ := vl i v hv
    have kp2 := stay mv kp
    have hA2 : At P w s2.heap S L es ep t := hA.on (fun o e => mv.heap S o out e) fun q hq => tup_on (tu q (List.mem_of_mem_take (g.inn q hq))) kp2
    have xp : IsT P w s2.heap p.2 p.1 := tup_on (tu p (List.mem_of_getElem? hp)) kp2
    show wpAny _ A.in1 (holding [Value.ref p.1] (setAdd S (.ref p.1)) >>= _) _ _ s2
    refine wpAny_bind (wpAny_holding ?_)
    unfold setAdd
    refine wpAny_holding (wpAny_bind (wpAny_pyHash_tuple (knd := intKind P w) un xp ?_))
    refine add (s := { s2 with toks := s2.toks + (p.2.length + 1) }) hA2 xp un (by have := g.few; omega) fun bb h' L' es' ep' t' sb hA3 c1 c2 => ?_
    have g2 : Has ks (i + 1) L' := by
      by_cases c : p.2 ∈ L.map (·.2)
      · rw [c1 c]; exact g.two hp c
      · exact g.one hp (c2 c)
    have kp3 : ∀ b o, B.get? b = some o → h'.get? b = some o := fun b o e => (sb.2 b fun z => by rw [z, BS] at e; cases e).trans (kp2 b o e)
    refine wpAny_pure ⟨plainId_quiet F.plain_set_update_loop _, ih (i + 1) _ (by omega) lt (W.frame _ s2 _ _ st2 (Nat.le_add_right _ _) fun b nb o e => (sb.2 b fun z => nS (z ▸ nb)).trans e) kp3 ⟨L', es', ep', t', hA3, g2⟩ ?_⟩
    intro s3 L3 es3 ep3 t3 mv3 hA4 g3 kp4
    exact fin s3 L3 es3 ep3 t3 (Moved.trans W.gtrans ((mv.mono up1).then_heap (Nat.le_add_right _ _) fun b o nb e => (sb.2 b fun z => nb (z ▸ List.mem_cons_self)).trans e) mv3) hA4 g3 kp4
/-- what is left of the init -/
def MadeT (P : Program) (w : World) (s : Shared) (ks : List (Addr × List Int)) (s2 : Shared) : Prop := ∃ h' tk L es ep t, s2 = { s with heap := h', toks := tk } ∧ At P w h' s.heap.objs.size L es ep t ∧ Has ks ks.length L ∧ ∀ b o, s.heap.get? b = some o → h'.get? b = some o
theorem init_tups {l : Addr} {items : Array Value} (ks : List (Addr × List Int)) (hh : A.handled = none) (hl : s.heap.IsList l items) (hit : items.toList = ks.map fun p => Value.ref p.1) (tu : ∀ p ∈ ks, IsT P w s.heap p.2 p.1) (fw : ks.length + 1 < 1200) (un : A.units + 3 < cLine) :
    wpAny (model P w) A.in1.in1 (Builtin.«set.__init__» ⟨[.ref s.heap.objs.size, .ref l], []⟩)
      (fun fin s' => match fin with | .done f => wants (fun r s2 => r = .none ∧ MadeT P w s ks s2) E (.ok f) s' | .again c' => c'.quiet = true ∧ codeAny (model P w) A.in1 c' (wants (fun r s2 => r = .none ∧ MadeT P w s ks s2) E) s')
      (fun e s' => wants (fun r s2 => r = .none ∧ MadeT P w s ks s2) E (.error e) s') (mtS w s) := by
  have sz : items.size = ks.length := by
    have q := congrArg List.length hit
    rwa [Array.length_toList, List.length_map] at q
  have atS : (s.heap.push (mtO w)).get? s.heap.objs.size = some (mtO w) := Heap.get?_push_size _ rfl
  have tyS : Shared.TypeIs (mtS w s) (.ref s.heap.objs.size) "set" := ⟨_, atS, rfl⟩
  obtain ⟨ob, atl, cl, nl, dl⟩ := hl
  obtain ⟨oc, od, oa, os⟩ := ob
  simp only at cl dl
  subst cl; subst dl
  have atl2 := Heap.get?_push_of_some (mtO w) atl
  have is1 := F.sub_list_set
  have is2 := F.sub_list_frozenset
  have is3 : (Value.type "list" == Value.type "dict") = false := by decide
  have hl1 : (s.heap.push (mtO w)).IsList l items := ⟨_, atl2, rfl, nl, rfl⟩
  unfold Builtin.«set.__init__» noKeywords Builtin.Frozenset.updateFrom
  generalize hgo : pyIter = go
  wp_walk
  subst hgo
  refine wpAny_pyIter_list hl1 (wpAny_bind (wpAny_runValue ?_))
  have lt : l < s.heap.objs.size := Heap.lt_size atl
  have neI : l ≠ (s.heap.push (mtO w)).objs.size := by
    rw [Heap.size_push]
    exact Nat.ne_of_lt (Nat.lt_succ_of_lt lt)
  have off : s.heap.objs.size ∉ [(s.heap.push (mtO w)).objs.size, l] := by
    rw [Heap.size_push]
    intro z
    rcases List.mem_cons.mp z with z | z
    · exact absurd z (Nat.ne_of_lt (Nat.lt_succ_self _))
    · exact absurd (List.mem_singleton.mp z) (Nat.ne_of_gt lt)
  have cold : A.in1.in1.in1.handled = none := by simp [hh]
  have free : ∀ b, s.heap.objs.size ≤ b → s.heap.get? b = none := fun b le => by
    cases q : s.heap.get? b with
    | none => rfl
    | some o => exact absurd (Heap.lt_size q) (Nat.not_lt.mpr le)
  have vl : ∀ (i : Nat) (v : Value), items[i]? = some v → ∃ p, ks[i]? = some p ∧ v = .ref p.1 := fun i v e => by
    rw [← Array.getElem?_toList, hit, List.getElem?_map] at e
    obtain ⟨p, e1, e2⟩ := Option.map_eq_some_iff.mp e
    exact ⟨p, e1, e2.symm⟩
  refine upd_loop ((Walks.list cold _ l neI items).toS) s.heap.objs.size off ks sz fw vl s.heap tu (free _ (Nat.le_refl _)) (fun b hb => free b (by rw [List.mem_singleton.mp hb, Heap.size_push]; exact Nat.le_succ _)) un
    (items.size - 0) 0 _ (by omega) (Nat.zero_le _) ⟨⟨_, Heap.get?_push_size _ rfl, rfl, rfl⟩, hl1.push _⟩ (fun b o e => Heap.get?_push_of_some _ (Heap.get?_push_of_some _ e)) ⟨[], #[], 0, _, fresh (Heap.get?_push_of_some _ atS), Has.nil ks⟩ ?_
  intro s' L es ep t mv hA g kp
  obtain ⟨h', g2, d', tk', o2⟩ := s'
  obtain rfl : g2 = s.gens := mv.gens
  obtain rfl : d' = s.drawn := mv.drawn
  obtain rfl : o2 = s.os := mv.os
  show wpAny _ _ _ _ _ _
  refine wpAny_pure ?_
  show wpAny _ _ (ret Value.none) _ _ _
  exact wpAny_pure ⟨rfl, h', tk', L, es, ep, t, rfl, hA, sz ▸ g, kp⟩
theorem set_tups {l : Addr} {items : Array Value} (ks : List (Addr × List Int)) {Q : Value → Shared → Prop} (hh : A.handled = none) (hl : s.heap.IsList l items) (hit : items.toList = ks.map fun p => Value.ref p.1) (tu : ∀ p ∈ ks, IsT P w s.heap p.2 p.1) (fw : ks.length + 1 < 1200) (un : A.units + 3 < cLine)
    (h : ∀ s2, MadeT P w s ks s2 → Q (.ref s.heap.objs.size) s2) : wpAny (model P w) A (call (.type "set") [.ref l]) Q E s := by
  obtain ⟨mc, mt', mro⟩ := F.called_set.mro
  have f1 := F.called_set.made
  have f2 := F.called_set.sub
  have f3 := F.called_set.notType
  have f4 := F.called_set.canCreate
  have f5 := F.typeCall_set_1 (.ref l)
  refine wpAny_call (codeAny_of_tree (show wpAny _ _ (callAny (.type "set") _) _ _ _ from ?_))
  refine wpAny_pure ⟨Code.quiet_builtin _ (by decide +kernel), codeAny_builtin F.entry_type_call ?_⟩
  rw [Around.under_plain (weight_type_call_type "set" [.ref l] []) rfl]
  repeat (any_goals (first | assumption | wp_step))
  refine codeAny_mono (code_set_led1 (.ref l) (E := E) (Q₁ := fun ob s1 => ob = .ref s.heap.objs.size ∧ s1 = mtS w s) ⟨rfl, rfl⟩) fun r s1 hr => ?_
  cases r with
  | error e => exact hr
  | ok fl =>
    cases fl with
    | ret ob =>
      obtain ⟨rfl, rfl⟩ := hr
      have atS : (s.heap.push (mtO w)).get? s.heap.objs.size = some (mtO w) := Heap.get?_push_size _ rfl
      have tyS : Shared.TypeIs (mtS w s) (.ref s.heap.objs.size) "set" := ⟨_, atS, rfl⟩
      have g1 := F.called_set.init.lookup
      have g2 := F.called_set.init.bind (.ref s.heap.objs.size)
      repeat (any_goals (first | assumption | wp_step))
      refine codeAny_mono (codeAny_call_builtin (R := wants (fun r s2 => r = .none ∧ MadeT P w s ks s2) E) F.called_set.init.plain F.entry_set_init (check_set_init_1 tyS (init_tups ks hh hl hit tu fw un))) fun r2 s2 hr2 => ?_
      cases r2 with
      | error e => exact hr2
      | ok f2 =>
        cases f2 with
        | ret r =>
          obtain ⟨rfl, md⟩ := hr2
          have md' := md
          obtain ⟨h', tk, L, es, ep, t, rfl, _⟩ := md
          repeat (any_goals (first | assumption | wp_step))
          exact h _ md'
        | _ => exact hr2.elim
    | _ => exact hr.elim
end
/-- set(xs) of tuples -/
def rSetTs (K : PySem.W.Frag) (P : Program) (w : World) : List V → Hp → VK → Prop := fun xs H Q => ∃ (l : Addr) (ks : List (Addr × List Int)), xs = [.ref l] ∧ SqL K H l (ks.map fun p => V.ref p.1) ∧ Tups K H ks ∧ ks.length + 1 < 1200 ∧
  ∀ p L, H p = none → (∀ q ∈ L, q ∈ ks) → (∀ q ∈ ks, q.2 ∈ L.map (·.2)) → (L.map (·.2)).Nodup → Q (.ref p) (upd H p (SO P w p L))
theorem cr_setTs {X : Cx} (hc : X.calm = true) (hu : X.A.units + 64 < cLine) : CallR X (.type "set") (rSetTs X.K X.prog X.w) := by
  intro pins s σ H vs us Q I r h
  obtain ⟨l, ks, rfl, hq, ht, hn, q⟩ := h
  obtain ⟨u, rfl, rx⟩ := vals1 r
  cases rx
  obtain ⟨its, rv, pl, hz⟩ := I.list hq
  have hit : its = ks.map fun p => Value.ref p.1 := refs_of_vals rv
  refine set_tups (P := X.prog) (w := X.w) ks (I.ok.hd hc) pl.isList (by simpa using hit) (isTs I ht) hn (by omega) fun s2 md => ?_
  obtain ⟨h', tk, L, es, ep, t, rfl, hA, g, k⟩ := md
  refine ⟨.ref s.heap.objs.size, _, I.laid (t' := tk) k (Nat.le_refl _) (so_ok hA.set0), rfl, q _ L (I.hok.fresh (Nat.le_refl _)) (fun z hz => List.mem_of_mem_take (g.inn z hz)) (fun z hz => g.all z (by rw [List.take_length]; exact hz)) hA.nd⟩
end Bs

namespace Sl
open PySem L2
/-! slices, by take and drop -/
theorem six_nat (n d k : Nat) : HT.sIx n d (some (k : Int)) = min k n := HT.sIx_nat n d k
theorem six_neg {n d k : Nat} (h : 0 < k) : HT.sIx n d (some (-(k : Int))) = n - k := by
  show (if -(k : Int) < 0 then (-(k : Int) + (n : Int)).toNat else min (-(k : Int)).toNat n) = n - k
  rw [if_pos (by omega)]; omega
theorem cut_to (xs : List V) (k : Nat) : cutV xs none (some (k : Int)) = xs.take k := by
  unfold cutV
  rw [six_nat, show HT.sIx xs.length 0 none = 0 from rfl, List.drop_zero, Nat.sub_zero]
  by_cases c : k ≤ xs.length
  · rw [Nat.min_eq_left c]
  · rw [Nat.min_eq_right (by omega), List.take_of_length_le (Nat.le_refl _), List.take_of_length_le (by omega)]
theorem cut_from (xs : List V) (k : Nat) : cutV xs (some (k : Int)) none = xs.drop k := by
  unfold cutV
  rw [six_nat, show HT.sIx xs.length xs.length none = xs.length from rfl]
  by_cases c : k ≤ xs.length
  · rw [Nat.min_eq_left c, List.take_of_length_le (by rw [List.length_drop]; omega)]
  · rw [Nat.min_eq_right (by omega), List.drop_eq_nil_of_le (Nat.le_refl _), List.drop_eq_nil_of_le (by omega), List.take_nil]
theorem cut_toN (xs : List V) {k : Nat} (h : 0 < k) : cutV xs none (some (-(k : Int))) = xs.take (xs.length - k) := by
  unfold cutV
  rw [six_neg h, show HT.sIx xs.length 0 none = 0 from rfl, List.drop_zero, Nat.sub_zero]
theorem cut_fromN (xs : List V) {k : Nat} (h : 0 < k) : cutV xs (some (-(k : Int))) none = xs.drop (xs.length - k) := by
  unfold cutV
  rw [six_neg h, show HT.sIx xs.length xs.length none = xs.length from rfl, List.take_of_length_le (by rw [List.length_drop]; omega)]
theorem cut_mid (xs : List V) (j k : Nat) : cutV xs (some (j : Int)) (some (k : Int)) = (xs.take k).drop j := by
  unfold cutV
  rw [six_nat, six_nat, List.drop_take]
  by_cases c : k ≤ xs.length
  · rw [Nat.min_eq_left c]
    by_cases d : j ≤ xs.length
    · rw [Nat.min_eq_left d]
    · rw [Nat.min_eq_right (by omega), List.drop_eq_nil_of_le (Nat.le_refl _), List.drop_eq_nil_of_le (by omega)]; simp
  · rw [Nat.min_eq_right (by omega)]
    by_cases d : j ≤ xs.length
    · rw [Nat.min_eq_left d, List.take_of_length_le (by rw [List.length_drop]; omega), List.take_of_length_le (by rw [List.length_drop]; omega)]
    · rw [Nat.min_eq_right (by omega), List.drop_eq_nil_of_le (Nat.le_refl _), List.drop_eq_nil_of_le (by omega)]; simp
end Sl

namespace Up
open PySem PySem.Spec PyProof.Rows L2
/-- d.update(e), e another dict -/
def rUpdD : V → List V → Hp → VK → Prop := fun x vs H Q => ∃ a b kvs more, x = .ref a ∧ vs = [.ref b] ∧ a ≠ b ∧ H a = some (.dK kvs) ∧ H b = some (.dK more) ∧ kvs.length + more.length ≤ sizeLine ∧ Q .non (upd H a (.dK (mergeK kvs more)))
theorem mt_updD {X : Cx} : MtR X "dict.update" rUpdD := by
  intro pins s σ H x vs v us Q I rx rv h
  obtain ⟨a, b, kvs, more, rfl, rfl, hne, ea, eb, hz, q⟩ := h
  cases rx
  obtain ⟨u, rfl, ru⟩ := rv.one
  cases ru
  obtain ⟨z1, hd1, vs1, rel1, dd1⟩ := dk_of I.hok ea
  obtain ⟨z2, hd2, vs2, rel2, dd2⟩ := dk_of I.hok eb
  refine call_meetsIn PySem.F.slot_dict_update dd1.typeIs PySem.F.entry_dict_update (PySem.F.args_dict_update_2 _ _) (meets_dict_update (mixKind X.prog X.w) a b hne hd2) ⟨vs1, vs2, dd1, dd2, by rw [← rel1.length, ← rel2.length]; exact hz, fun h' dd' _ hs => ?_⟩
  have he : ∃ q, h'.get? a = some q := let ⟨q, _, _, hq, _⟩ := dd'; ⟨q, hq⟩
  have hl : (mergeK kvs more).length ≤ sizeLine := Nat.le_trans (length_mergeK more kvs) hz
  exact ⟨.non, _, d_write I (by rw [ea]; exact True.intro) hs he (dk_new hl hd1 (KV.merge rel2 rel1) dd'), rfl, q⟩
/-- range(n) as a value -/
theorem cr_range1 {X : Cx} : CallR X (.type "range") (fun vs H Q => ∃ i, vs = [V.int i] ∧ ∀ p, H p = none → Q (.ref p) (upd H p (.rng 0 i))) := by
  intro pins s σ H vs us Q I r h
  obtain ⟨i, rfl, q⟩ := h
  obtain ⟨u1, rfl, ri⟩ := vals1 r
  obtain ⟨t, rfl⟩ := ri
  refine call_range_1 ⟨.ref s.heap.objs.size, upd H s.heap.objs.size (.rng 0 i), I.laid (t' := s.toks + 2) (fun b o e => Heap.get?_push_of_some _ e) (Nat.le_refl _) ?_, rfl, q _ (I.hok.fresh (Nat.le_refl _))⟩
  exact ⟨_, _, _, Heap.get?_push_size _ rfl⟩
theorem small1 {n : Nat} (hn : n ≤ 1000) : Builtin.Range.small 0 (n : Int) 1 = true := PySem.small_one (by decide) (by decide) (by omega) (by omega)
/-- list(range(n)) -/
theorem cl_rng {X : Cx} (hc : X.calm = true) : CallR X (.type "list") (fun vs H Q => ∃ r n, vs = [V.ref r] ∧ H r = some (.rng 0 ((n : Nat) : Int)) ∧ n ≤ 1000 ∧ ∀ l, H l = none → Q (.ref l) (upd H l (.lst ((List.range n).map fun i : Nat => V.int (i : Int))))) := by
  intro pins s σ H vs us Q I r h
  obtain ⟨a, n, rfl, ha, hn, q⟩ := h
  obtain ⟨u1, rfl, ri⟩ := vals1 r
  cases ri
  obtain ⟨t1, t2, t3, ho⟩ := I.hok a _ ha
  refine call_list_range (n := n) (I.ok.hd hc) ho (small1 hn) (by rw [rangeSize_one]; split <;> omega) (by omega) fun h' tk acc' c' k hS hi => ?_
  have hv : Vals ((List.range n).map fun i : Nat => V.int (i : Int)) acc'.toList := by
    have key : ∀ (l : List Value) (m : Nat), (∀ j v, l[j]? = some v → ∃ t, v = Value.int (0 + ((m + j : Nat) : Int) * 1) t) → Vals ((List.range' m l.length).map fun i : Nat => V.int (i : Int)) l := by
      intro l
      induction l with
      | nil => intro m _; exact .nil
      | cons v l ih =>
        intro m h
        rw [List.length_cons, List.range'_succ, List.map_cons]
        refine .cons ?_ (ih (m + 1) fun j v' hj => ?_)
        · obtain ⟨t, e⟩ := h 0 v rfl
          refine ⟨t, ?_⟩
          rw [e]
          congr 1
          omega
        · obtain ⟨t, e⟩ := h (j + 1) v' (by simpa using hj)
          refine ⟨t, ?_⟩
          rw [e, show m + 1 + j = m + (j + 1) by omega]
    have h1 := key acc'.toList 0 fun j v hj => by
      obtain ⟨t, e⟩ := hi.2 j v (by rw [← Array.getElem?_toList]; exact hj)
      exact ⟨t, by rw [e, Nat.zero_add]⟩
    rw [Array.length_toList, hi.1] at h1
    rw [List.range_eq_range']
    exact h1
  exact ⟨.ref s.heap.objs.size, _, I.laid (t' := tk) (a := s.heap.objs.size) (o := .lst ((List.range n).map fun i : Nat => V.int (i : Int))) k (Nat.le_refl _) ⟨by rw [List.length_map, List.length_range, sizeLine_eq]; omega, acc'.toList, c', hv, by simpa using hS⟩, rfl, q _ (I.hok.fresh (Nat.le_refl _))⟩
end Up

namespace Ge
/-- what is done, where W are the places that wait, and Pend the ties that are still to be looked at -/
structure Cl (nb : Int → List Int) (m : Int → Option Int) (E : List Int) (rd : Int → List Int) (W : List Int) (Pend : Int → Int → Prop) : Prop where
  out : ∀ x ∈ E, ∀ y ∈ nb x, y ∉ E → (∃ z, m y = some z ∧ z ∈ E) ∨ x ∈ W ∨ Pend x y
  cl : ∀ x ∈ E, ∀ y ∈ E, y ∈ nb x → (∀ p, p ∉ E → (p ∈ rd x ↔ p ∈ rd y)) ∨ x ∈ W ∨ y ∈ W ∨ Pend x y ∨ Pend y x
/-- with the places F, and their roads, put to it -/
def put (rd : Int → List Int) (F : List Int) (nr : Int → List Int) (x : Int) : List Int := if x ∈ F then nr x else rd x
theorem put_in {rd nr : Int → List Int} {F : List Int} {x : Int} (h : x ∈ F) : put rd F nr x = nr x := if_pos h
theorem put_out {rd nr : Int → List Int} {F : List Int} {x : Int} (h : x ∉ F) : put rd F nr x = rd x := if_neg h
section
variable {nb : Int → List Int} {m : Int → Option Int} {r : Int} {E W F : List Int} {rd nr : Int → List Int} {P : Int → Int → Prop}
theorem Cl.start : Cl nb m [r] (fun _ => [r]) [r] (fun _ _ => False) :=
  ⟨fun x hx _ _ _ => .inr (.inl hx), fun x hx _ _ _ => .inr (.inl hx)⟩
theorem Cl.pop (G : Gr nb) {h : Int} (C : Cl nb m E rd (W ++ [h]) (fun _ _ => False)) : Cl nb m E rd W (fun x y => x = h ∧ y ∈ (nb h).drop 0) := by
  have sp : ∀ {x : Int}, x ∈ W ++ [h] → x ∈ W ∨ x = h := fun hx => (List.mem_append.mp hx).imp id List.mem_singleton.mp
  refine ⟨fun x hx y hy he => ?_, fun x hx y hy hn => ?_⟩
  · rcases C.out x hx y hy he with z | z | z
    · exact .inl z
    · rcases sp z with z | rfl
      · exact .inr (.inl z)
      · exact .inr (.inr ⟨rfl, by rw [List.drop_zero]; exact hy⟩)
    · exact z.elim
  · rcases C.cl x hx y hy hn with z | z | z | z | z
    · exact .inl z
    · rcases sp z with z | rfl
      · exact .inr (.inl z)
      · exact .inr (.inr (.inr (.inl ⟨rfl, by rw [List.drop_zero]; exact hn⟩)))
    · rcases sp z with z | rfl
      · exact .inr (.inr (.inl z))
      · exact .inr (.inr (.inr (.inr ⟨rfl, by rw [List.drop_zero]; exact G.sym hn⟩)))
    · exact z.elim
    · exact z.elim
theorem drop_at {l : List Int} {i : Nat} {t : Int} (h : l[i]? = some t) : l.drop i = t :: l.drop (i + 1) := by
  obtain ⟨hi, e⟩ := List.getElem?_eq_some_iff.mp h
  rw [List.drop_eq_getElem_cons hi, e]
/-- the tie from h to t is done -/
theorem Cl.go {h t : Int} {i : Nat} (C : Cl nb m E rd W (fun x y => x = h ∧ y ∈ (nb h).drop i)) (ht : (nb h)[i]? = some t)
    (hF : ∀ x ∈ F, x ∉ E) (done : (t ∉ E ++ F ∧ ∃ z, m t = some z ∧ z ∈ E ++ F) ∨ (t ∈ E ∧ h ∈ E ∧ ∀ p, p ∉ E ++ F → (p ∈ rd h ↔ p ∈ rd t))) :
    Cl nb m (E ++ F) (put rd F nr) (W ++ F) (fun x y => x = h ∧ y ∈ (nb h).drop (i + 1)) := by
  have sp : ∀ {x : Int}, x ∈ E ++ F → x ∈ E ∨ x ∈ F := fun hx => List.mem_append.mp hx
  have old : ∀ {x : Int}, x ∈ E → put rd F nr x = rd x := fun hx => put_out fun z => hF _ z hx
  have ed := drop_at ht
  refine ⟨fun x hx y hy he => ?_, fun x hx y hy hn => ?_⟩
  · rcases sp hx with hx | hx
    · rcases C.out x hx y hy (fun z => he (List.mem_append_left _ z)) with ⟨z, z1, z2⟩ | z | ⟨rfl, z⟩
      · exact .inl ⟨z, z1, List.mem_append_left _ z2⟩
      · exact .inr (.inl (List.mem_append_left _ z))
      · rw [ed] at z
        rcases List.mem_cons.mp z with rfl | z
        · rcases done with ⟨_, z⟩ | ⟨z, _⟩
          · exact .inl z
          · exact absurd (List.mem_append_left _ z) he
        · exact .inr (.inr ⟨rfl, z⟩)
    · exact .inr (.inl (List.mem_append_right _ hx))
  · rcases sp hx with hx | hx
    · rcases sp hy with hy | hy
      · rw [old hx, old hy]
        rcases C.cl x hx y hy hn with z | z | z | ⟨rfl, z⟩ | ⟨rfl, z⟩
        · exact .inl fun p hp => z p fun q => hp (List.mem_append_left _ q)
        · exact .inr (.inl (List.mem_append_left _ z))
        · exact .inr (.inr (.inl (List.mem_append_left _ z)))
        · rw [ed] at z
          rcases List.mem_cons.mp z with rfl | z
          · rcases done with ⟨z, _⟩ | ⟨_, _, z⟩
            · exact absurd (List.mem_append_left _ hy) z
            · exact .inl z
          · exact .inr (.inr (.inr (.inl ⟨rfl, z⟩)))
        · rw [ed] at z
          rcases List.mem_cons.mp z with rfl | z
          · rcases done with ⟨z, _⟩ | ⟨_, _, z⟩
            · exact absurd (List.mem_append_left _ hx) z
            · exact .inl fun p hp => (z p hp).symm
          · exact .inr (.inr (.inr (.inr ⟨rfl, z⟩)))
      · exact .inr (.inr (.inl (List.mem_append_right _ hy)))
    · exact .inr (.inl (List.mem_append_right _ hx))
theorem Cl.round {h : Int} (C : Cl nb m E rd W (fun x y => x = h ∧ y ∈ (nb h).drop (nb h).length)) : Cl nb m E rd W (fun _ _ => False) := by
  have no : ∀ {y : Int}, y ∈ (nb h).drop (nb h).length → False := fun hy => by rw [List.drop_length] at hy; cases hy
  refine ⟨fun x hx y hy he => ?_, fun x hx y hy hn => ?_⟩
  · exact (C.out x hx y hy he).imp id fun z => z.imp id fun z => no z.2
  · exact (C.cl x hx y hy hn).imp id fun z => z.imp id fun z => z.imp id fun z => z.elim (fun z => (no z.2).elim) fun z => (no z.2).elim
theorem Cl.fin (C : Cl nb m E rd [] (fun _ _ => False)) : Done nb m E rd := by
  refine ⟨fun x hx y hy he => ?_, fun x hx y hy hn => ?_⟩
  · rcases C.out x hx y hy he with z | z | z
    · exact z
    · cases z
    · exact z.elim
  · rcases C.cl x hx y hy hn with z | z | z | z | z
    · exact z
    · cases z
    · cases z
    · exact z.elim
    · exact z.elim
/-- the new roads of a tie from h to t, both with roads -/
structure Ring (E : List Int) (rd : Int → List Int) (h t : Int) (F : List Int) (nr : Int → List Int) : Prop where
  nd : F.Nodup
  mem : ∀ p, p ∈ F ↔ p ∉ E ∧ ((p ∈ rd h ∧ p ∉ rd t) ∨ (p ∈ rd t ∧ p ∉ rd h))
  ha : ∀ p, p ∉ E → ∀ i : Nat, (rd h)[i]? = some p → p ∉ rd t → nr p = rd t ++ ((rd h).drop i).reverse
  hb : ∀ p, p ∉ E → ∀ i : Nat, (rd t)[i]? = some p → p ∉ rd h → nr p = rd h ++ ((rd t).drop i).reverse
theorem Ring.rg {h t : Int} (R : Ring E rd h t F nr) : Rg E rd h t (E ++ F) (put rd F nr) := by
  have inF : ∀ p, p ∉ E → (p ∈ rd h ∧ p ∉ rd t) ∨ (p ∈ rd t ∧ p ∉ rd h) → p ∈ F := fun p h1 h2 => (R.mem p).mpr ⟨h1, h2⟩
  refine ⟨fun p hp => List.mem_append_left _ hp, fun p hp hn => ?_, fun p h1 h2 => List.mem_append_right _ (inF p h1 h2), fun p hp => put_out fun z => ((R.mem p).mp z).1 hp, fun p hp i hi hn => ?_, fun p hp i hi hn => ?_⟩
  · rcases List.mem_append.mp hp with z | z
    · exact absurd z hn
    · exact ((R.mem p).mp z).2
  · rw [put_in (inF p hp (.inl ⟨List.mem_of_getElem? hi, hn⟩))]; exact R.ha p hp i hi hn
  · rw [put_in (inF p hp (.inr ⟨List.mem_of_getElem? hi, hn⟩))]; exact R.hb p hp i hi hn
/-- one tie looked at: three ways -/
inductive Step (m : Int → Option Int) (E : List Int) (rd : Int → List Int) (h t : Int) : List Int → (Int → List Int) → Prop
  | ring {F : List Int} {nr : Int → List Int} (ht : t ∈ E) (R : Ring E rd h t F nr) : Step m E rd h t F nr
  | skip {nr : Int → List Int} {z : Int} (ht : t ∉ E) (hz : m t = some z) (hE : z ∈ E) : Step m E rd h t [] nr
  | grow {nr : Int → List Int} {z : Int} (ht : t ∉ E) (hz : m t = some z) (hE : z ∉ E) (e : nr z = rd h ++ [t, z]) : Step m E rd h t [z] nr
theorem Step.off {h t : Int} (S : Step m E rd h t F nr) : F.Nodup ∧ ∀ x ∈ F, x ∉ E := by
  cases S with
  | ring _ R => exact ⟨R.nd, fun x hx => ((R.mem x).mp hx).1⟩
  | skip => exact ⟨List.nodup_nil, fun x hx => by cases hx⟩
  | grow _ _ hE => exact ⟨List.pairwise_singleton _ _, fun x hx => by rw [List.mem_singleton.mp hx]; exact hE⟩
theorem Step.sv (G : Gr nb) (M : Mt nb m) {h t : Int} (V : Sv nb m r E rd) (hh : h ∈ E) (hn : t ∈ nb h) (S : Step m E rd h t F nr) : Sv nb m r (E ++ F) (put rd F nr) := by
  cases S with
  | ring ht R => exact V.ring G M hh ht hn R.rg
  | skip =>
    rw [List.append_nil]
    have : put rd [] nr = rd := funext fun x => put_out (by intro z; cases z)
    rw [this]; exact V
  | @grow _ z ht hz hE e =>
    have := V.grow G M hh hn ht hz hE
    have e2 : put rd [z] nr = fun p => if p = z then rd h ++ [t, z] else rd p := funext fun p => by
      unfold put
      by_cases c : p = z
      · subst c; rw [if_pos (List.mem_singleton.mpr rfl), if_pos rfl, e]
      · rw [if_neg fun q => c (List.mem_singleton.mp q), if_neg c]
    rw [e2]; exact this
theorem Step.cl (G : Gr nb) (M : Mt nb m) (V : Sv nb m r E rd) {h t : Int} {i : Nat} (C : Cl nb m E rd W (fun x y => x = h ∧ y ∈ (nb h).drop i)) (ht : (nb h)[i]? = some t) (hh : h ∈ E) (S : Step m E rd h t F nr) :
    Cl nb m (E ++ F) (put rd F nr) (W ++ F) (fun x y => x = h ∧ y ∈ (nb h).drop (i + 1)) := by
  refine C.go ht S.off.2 ?_
  cases S with
  | ring hE R =>
    refine .inr ⟨hE, hh, fun p hp => ?_⟩
    have := R.rg.same hh hE hp
    rw [R.rg.old h hh, R.rg.old t hE] at this
    exact this
  | @skip _ z hE hz zE => exact .inl ⟨by rw [List.append_nil]; exact hE, z, hz, by rw [List.append_nil]; exact zE⟩
  | @grow _ z hE hz zE e =>
    refine .inl ⟨fun q => ?_, z, hz, List.mem_append_right _ (List.mem_singleton.mpr rfl)⟩
    rcases List.mem_append.mp q with q | q
    · exact hE q
    · have := List.mem_singleton.mp q
      subst this
      exact (M.irr G) hz
/-- what has roads lies in the net -/
theorem Rd.rng {n : Nat} (hn : ∀ {p q}, q ∈ nb p → 0 ≤ q ∧ q < (n : Int)) {x : Int} {l : List Int} (R : Rd nb m r x l) (hr : 0 ≤ r ∧ r < (n : Int)) : ∀ p ∈ l, 0 ≤ p ∧ p < (n : Int) := fun p hp => by
  obtain ⟨i, hi⟩ := List.getElem?_of_mem hp
  cases i with
  | zero => rw [R.fst] at hi; cases hi; exact hr
  | succ i =>
    have hl := (List.getElem?_eq_some_iff.mp hi).1
    exact hn (R.adj i l[i] p (List.getElem?_eq_getElem (by omega)) hi)
theorem Sv.rng {n : Nat} (hn : ∀ {p q}, q ∈ nb p → 0 ≤ q ∧ q < (n : Int)) (V : Sv nb m r E rd) (hr : 0 ≤ r ∧ r < (n : Int)) : ∀ x ∈ E, 0 ≤ x ∧ x < (n : Int) := fun x hx =>
  (V.road x hx).rng hn hr x (V.road x hx).mem
theorem Sv.len {n : Nat} (hn : ∀ {p q}, q ∈ nb p → 0 ≤ q ∧ q < (n : Int)) (V : Sv nb m r E rd) (hr : 0 ≤ r ∧ r < (n : Int)) {x : Int} (hx : x ∈ E) : (rd x).length ≤ n := by
  have key : ∀ {l : List Int}, l.Nodup → (∀ p ∈ l, 0 ≤ p ∧ p < (n : Int)) → l.length ≤ n := fun {l} nd h => by
    have := sub_len nd (l2 := (List.range n).map fun i : Nat => (i : Int)) fun a ha => by
      have := h a ha
      exact List.mem_map.mpr ⟨a.toNat, List.mem_range.mpr (by omega), by omega⟩
    rwa [List.length_map, List.length_range] at this
  exact key (V.road x hx).nd ((V.road x hx).rng hn hr)
end
end Ge

namespace Od
open PySem PySem.Spec PyProof.Rows L2
abbrev St := L2.St
def top (i : Nat) : Stmt := PySem.Challenge.pw_oddpairs_k12_texts.main.body.getD i (.Pass ⟨0, 0, 0, 0⟩)
abbrev S_is_number : Stmt := top 11
abbrev N_is_number : List Str := ["thing"]
theorem sc_is_number : FnScope N_is_number ["thing"] (defScope S_is_number) := ⟨rfl, rfl, rfl, by decide +kernel, rfl, by decide +kernel, by decide +kernel⟩
abbrev S_is_place : Stmt := top 12
abbrev N_is_place : List Str := ["thing", "size"]
theorem sc_is_place : FnScope N_is_place ["thing", "size"] (defScope S_is_place) := ⟨rfl, rfl, rfl, by decide +kernel, rfl, by decide +kernel, by decide +kernel⟩
abbrev S_is_tie : Stmt := top 13
abbrev N_is_tie : List Str := ["thing", "size", "one", "other"]
theorem sc_is_tie : FnScope N_is_tie ["thing", "size"] (defScope S_is_tie) := ⟨rfl, rfl, rfl, by decide +kernel, rfl, by decide +kernel, by decide +kernel⟩
abbrev S_rising_ties : Stmt := top 14
abbrev N_rising_ties : List Str := ["size", "ties", "seen", "tie", "one", "other"]
theorem sc_rising_ties : FnScope N_rising_ties ["size", "ties"] (defScope S_rising_ties) := ⟨rfl, rfl, rfl, by decide +kernel, rfl, by decide +kernel, by decide +kernel⟩
abbrev S_neighbours : Stmt := top 15
abbrev N_neighbours : List Str := ["size", "ties", "near", "one", "other", "_"]
theorem sc_neighbours : FnScope N_neighbours ["size", "ties"] (defScope S_neighbours) := ⟨rfl, rfl, rfl, by decide +kernel, rfl, by decide +kernel, by decide +kernel⟩
abbrev S_Net___init__ : Stmt := inClass (top 16) 0
abbrev N_Net___init__ : List Str := ["self", "size", "ties"]
theorem sc_Net___init__ : FnScope N_Net___init__ ["self", "size", "ties"] (defScope S_Net___init__) := ⟨rfl, rfl, rfl, by decide +kernel, rfl, by decide +kernel, by decide +kernel⟩
abbrev S_Net_ties : Stmt := inClass (top 16) 1
abbrev N_Net_ties : List Str := ["self"]
theorem sc_Net_ties : FnScope N_Net_ties ["self"] (defScope S_Net_ties) := ⟨rfl, rfl, rfl, by decide +kernel, rfl, by decide +kernel, by decide +kernel⟩
abbrev S_Net_beside : Stmt := inClass (top 16) 2
abbrev N_Net_beside : List Str := ["self", "place"]
theorem sc_Net_beside : FnScope N_Net_beside ["self", "place"] (defScope S_Net_beside) := ⟨rfl, rfl, rfl, by decide +kernel, rfl, by decide +kernel, by decide +kernel⟩
abbrev S_reached : Stmt := top 17
abbrev N_reached : List Str := ["net", "first", "closed", "seen", "waiting", "here", "place"]
theorem sc_reached : FnScope N_reached ["net", "first", "closed"] (defScope S_reached) := ⟨rfl, rfl, rfl, by decide +kernel, rfl, by decide +kernel, by decide +kernel⟩
abbrev S_parts : Stmt := top 18
abbrev N_parts : List Str := ["net", "taken", "closed", "place", "found", "first", "part"]
theorem sc_parts : FnScope N_parts ["net", "taken"] (defScope S_parts) := ⟨rfl, rfl, rfl, by decide +kernel, rfl, by decide +kernel, by decide +kernel⟩
abbrev S_shown : Stmt := top 22
abbrev N_shown : List Str := ["net", "words", "one", "other"]
theorem sc_shown : FnScope N_shown ["net"] (defScope S_shown) := ⟨rfl, rfl, rfl, by decide +kernel, rfl, by decide +kernel, by decide +kernel⟩
abbrev S_number_in : Stmt := top 23
abbrev N_number_in : List Str := ["word", "sign"]
theorem sc_number_in : FnScope N_number_in ["word"] (defScope S_number_in) := ⟨rfl, rfl, rfl, by decide +kernel, rfl, by decide +kernel, by decide +kernel⟩
abbrev S_tie_in : Stmt := top 24
abbrev N_tie_in : List Str := ["word", "one", "_", "other"]
theorem sc_tie_in : FnScope N_tie_in ["word"] (defScope S_tie_in) := ⟨rfl, rfl, rfl, by decide +kernel, rfl, by decide +kernel, by decide +kernel⟩
abbrev S_read : Stmt := top 25
abbrev N_read : List Str := ["line", "size", "_", "rest", "net", "word"]
theorem sc_read : FnScope N_read ["line"] (defScope S_read) := ⟨rfl, rfl, rfl, by decide +kernel, rfl, by decide +kernel, by decide +kernel⟩
abbrev S_checked : Stmt := top 27
abbrev N_checked : List Str := ["net", "pairs", "paired", "kept", "pair", "one", "other"]
theorem sc_checked : FnScope N_checked ["net", "pairs"] (defScope S_checked) := ⟨rfl, rfl, rfl, by decide +kernel, rfl, by decide +kernel, by decide +kernel⟩
abbrev S_mates_in : Stmt := top 28
abbrev N_mates_in : List Str := ["net", "pairs", "mates", "one", "other"]
theorem sc_mates_in : FnScope N_mates_in ["net", "pairs"] (defScope S_mates_in) := ⟨rfl, rfl, rfl, by decide +kernel, rfl, by decide +kernel, by decide +kernel⟩
abbrev S_are_places : Stmt := top 29
abbrev N_are_places : List Str := ["net", "way", "place"]
theorem sc_are_places : FnScope N_are_places ["net", "way"] (defScope S_are_places) := ⟨rfl, rfl, rfl, by decide +kernel, rfl, by decide +kernel, by decide +kernel⟩
abbrev S_is_way : Stmt := top 30
abbrev N_is_way : List Str := ["net", "mates", "way", "at", "here", "there"]
theorem sc_is_way : FnScope N_is_way ["net", "mates", "way"] (defScope S_is_way) := ⟨rfl, rfl, rfl, by decide +kernel, rfl, by decide +kernel, by decide +kernel⟩
abbrev S_turned : Stmt := top 31
abbrev N_turned : List Str := ["net", "pairs", "way", "kept", "steps", "untouched", "one", "other", "pair"]
theorem sc_turned : FnScope N_turned ["net", "pairs", "way"] (defScope S_turned) := ⟨rfl, rfl, rfl, by decide +kernel, rfl, by decide +kernel, by decide +kernel⟩
abbrev S_roads_round : Stmt := top 33
abbrev N_roads_round : List Str := ["roads", "one", "other", "found", "at", "place", "back"]
theorem sc_roads_round : FnScope N_roads_round ["roads", "one", "other"] (defScope S_roads_round) := ⟨rfl, rfl, rfl, by decide +kernel, rfl, by decide +kernel, by decide +kernel⟩
abbrev S_roads_by : Stmt := top 34
abbrev N_roads_by : List Str := ["roads", "mates", "here", "there", "found", "mate"]
theorem sc_roads_by : FnScope N_roads_by ["roads", "mates", "here", "there"] (defScope S_roads_by) := ⟨rfl, rfl, rfl, by decide +kernel, rfl, by decide +kernel, by decide +kernel⟩
abbrev S_way_from : Stmt := top 35
abbrev N_way_from : List Str := ["net", "mates", "root", "roads", "waiting", "here", "there", "found", "place"]
theorem sc_way_from : FnScope N_way_from ["net", "mates", "root"] (defScope S_way_from) := ⟨rfl, rfl, rfl, by decide +kernel, rfl, by decide +kernel, by decide +kernel⟩
abbrev S_better : Stmt := top 36
abbrev N_better : List Str := ["net", "pairs", "mates", "root", "way"]
theorem sc_better : FnScope N_better ["net", "pairs"] (defScope S_better) := ⟨rfl, rfl, rfl, by decide +kernel, rfl, by decide +kernel, by decide +kernel⟩
abbrev S_most : Stmt := top 37
abbrev N_most : List Str := ["net", "pairs", "way"]
theorem sc_most : FnScope N_most ["net"] (defScope S_most) := ⟨rfl, rfl, rfl, by decide +kernel, rfl, by decide +kernel, by decide +kernel⟩
abbrev S_without : Stmt := top 39
abbrev N_without : List Str := ["rows", "place", "row"]
theorem sc_without : FnScope N_without ["rows", "place"] (defScope S_without) := ⟨rfl, rfl, rfl, by decide +kernel, rfl, by decide +kernel, by decide +kernel⟩
abbrev S_freed : Stmt := top 40
abbrev N_freed : List Str := ["net", "pairs", "place", "others", "rest", "way"]
theorem sc_freed : FnScope N_freed ["net", "pairs", "place"] (defScope S_freed) := ⟨rfl, rfl, rfl, by decide +kernel, rfl, by decide +kernel, by decide +kernel⟩
abbrev S_is_beside_one : Stmt := top 41
abbrev N_is_beside_one : List Str := ["net", "place", "marked", "other"]
theorem sc_is_beside_one : FnScope N_is_beside_one ["net", "place", "marked"] (defScope S_is_beside_one) := ⟨rfl, rfl, rfl, by decide +kernel, rfl, by decide +kernel, by decide +kernel⟩
abbrev S_fence : Stmt := top 42
abbrev N_fence : List Str := ["net", "pairs", "places", "left", "place"]
theorem sc_fence : FnScope N_fence ["net"] (defScope S_fence) := ⟨rfl, rfl, rfl, by decide +kernel, rfl, by decide +kernel, by decide +kernel⟩
abbrev S__law_sole : Stmt := top 44
abbrev N__law_sole : List Str := ["_law_error", "_law_many"]
theorem sc__law_sole : FnScope N__law_sole ["_law_error"] (defScope S__law_sole) := ⟨rfl, rfl, rfl, by decide +kernel, rfl, by decide +kernel, by decide +kernel⟩
abbrev S__law_cell_at : Stmt := top 46
abbrev N__law_cell_at : List Str := ["_law_script", "_law_k"]
theorem sc__law_cell_at : FnScope N__law_cell_at ["_law_script", "_law_k"] (defScope S__law_cell_at) := ⟨rfl, rfl, rfl, by decide +kernel, rfl, by decide +kernel, by decide +kernel⟩
abbrev S__law_tied : Stmt := top 47
abbrev N__law_tied : List Str := ["_law_kind", "_law_cell", "_law_one", "_law_other", "_law_size"]
theorem sc__law_tied : FnScope N__law_tied ["_law_kind", "_law_cell", "_law_one", "_law_other", "_law_size"] (defScope S__law_tied) := ⟨rfl, rfl, rfl, by decide +kernel, rfl, by decide +kernel, by decide +kernel⟩
abbrev S__law_ties_by : Stmt := top 48
abbrev N__law_ties_by : List Str := ["_law_script", "_law_size", "_law_kind", "_law_found", "_law_one", "_law_other", "_law_at", "_law_cell"]
theorem sc__law_ties_by : FnScope N__law_ties_by ["_law_script", "_law_size", "_law_kind"] (defScope S__law_ties_by) := ⟨rfl, rfl, rfl, by decide +kernel, rfl, by decide +kernel, by decide +kernel⟩
abbrev S__law_size_by : Stmt := top 49
abbrev N__law_size_by : List Str := ["_law_script", "_law_bound"]
theorem sc__law_size_by : FnScope N__law_size_by ["_law_script", "_law_bound"] (defScope S__law_size_by) := ⟨rfl, rfl, rfl, by decide +kernel, rfl, by decide +kernel, by decide +kernel⟩
abbrev S__law_kind_by : Stmt := top 50
abbrev N__law_kind_by : List Str := ["_law_script"]
theorem sc__law_kind_by : FnScope N__law_kind_by ["_law_script"] (defScope S__law_kind_by) := ⟨rfl, rfl, rfl, by decide +kernel, rfl, by decide +kernel, by decide +kernel⟩
abbrev S__law_great : Stmt := top 51
abbrev N__law_great : List Str := ["_law_script"]
theorem sc__law_great : FnScope N__law_great ["_law_script"] (defScope S__law_great) := ⟨rfl, rfl, rfl, by decide +kernel, rfl, by decide +kernel, by decide +kernel⟩
abbrev S__law_net_by : Stmt := top 52
abbrev N__law_net_by : List Str := ["_law_script", "_law_bound", "_law_size", "_law_kind"]
theorem sc__law_net_by : FnScope N__law_net_by ["_law_script", "_law_bound"] (defScope S__law_net_by) := ⟨rfl, rfl, rfl, by decide +kernel, rfl, by decide +kernel, by decide +kernel⟩
abbrev S__law_figures : Stmt := top 53
abbrev N__law_figures : List Str := ["_law_number_here"]
theorem sc__law_figures : FnScope N__law_figures ["_law_number_here"] (defScope S__law_figures) := ⟨rfl, rfl, rfl, by decide +kernel, rfl, by decide +kernel, by decide +kernel⟩
abbrev S__law_text : Stmt := top 54
abbrev N__law_text : List Str := ["_law_size", "_law_ties", "_law_words", "_law_one", "_law_other"]
theorem sc__law_text : FnScope N__law_text ["_law_size", "_law_ties"] (defScope S__law_text) := ⟨rfl, rfl, rfl, by decide +kernel, rfl, by decide +kernel, by decide +kernel⟩
abbrev S__law_number : Stmt := top 55
abbrev N__law_number : List Str := ["_law_word", "_law_number_here"]
theorem sc__law_number : FnScope N__law_number ["_law_word"] (defScope S__law_number) := ⟨rfl, rfl, rfl, by decide +kernel, rfl, by decide +kernel, by decide +kernel⟩
abbrev S__law_tie : Stmt := top 56
abbrev N__law_tie : List Str := ["_law_word", "_law_size", "_law_at", "_law_one", "_law_other"]
theorem sc__law_tie : FnScope N__law_tie ["_law_word", "_law_size"] (defScope S__law_tie) := ⟨rfl, rfl, rfl, by decide +kernel, rfl, by decide +kernel, by decide +kernel⟩
abbrev S__law_net_of : Stmt := top 57
abbrev N__law_net_of : List Str := ["_law_line", "_law_words", "_law_size", "_law_ties", "_law_word"]
theorem sc__law_net_of : FnScope N__law_net_of ["_law_line"] (defScope S__law_net_of) := ⟨rfl, rfl, rfl, by decide +kernel, rfl, by decide +kernel, by decide +kernel⟩
abbrev S__law_refused : Stmt := top 58
abbrev N__law_refused : List Str := ["_law_line", "_law_error"]
theorem sc__law_refused : FnScope N__law_refused ["_law_line"] (defScope S__law_refused) := ⟨rfl, rfl, rfl, by decide +kernel, rfl, by decide +kernel, by decide +kernel⟩
abbrev S__law_read_alike : Stmt := top 59
abbrev N__law_read_alike : List Str := ["_law_line", "_law_due", "_law_net", "_law_place", "_law_near", "_law_made", "_law_tie_here"]
theorem sc__law_read_alike : FnScope N__law_read_alike ["_law_line"] (defScope S__law_read_alike) := ⟨rfl, rfl, rfl, by decide +kernel, rfl, by decide +kernel, by decide +kernel⟩
abbrev S__law_changed : Stmt := top 60
abbrev N__law_changed : List Str := ["_law_line", "_law_cell", "_law_more", "_law_some", "_law_sign", "_law_at"]
theorem sc__law_changed : FnScope N__law_changed ["_law_line", "_law_cell", "_law_more"] (defScope S__law_changed) := ⟨rfl, rfl, rfl, by decide +kernel, rfl, by decide +kernel, by decide +kernel⟩
abbrev S_law : Stmt := top 61
abbrev N_law : List Str := ["_law_script", "_law_size", "_law_ties", "_law_net", "_law_line", "_law_some"]
theorem sc_law : FnScope N_law ["_law_script"] (defScope S_law) := ⟨rfl, rfl, rfl, by decide +kernel, rfl, by decide +kernel, by decide +kernel⟩

/-! ### kinds of values -/
inductive Ty | non | bool | int | str | list | tuple | dict
  deriving DecidableEq
def Ty.nm : Ty → String
  | .non => "NoneType" | .bool => "bool" | .int => "int" | .str => "str" | .list => "list" | .tuple => "tuple" | .dict => "dict"
inductive Kd (H : Hp) : V → Ty → Prop
  | non : Kd H .non .non
  | bl (b : Bool) : Kd H (.bl b) .bool
  | int (i : Int) : Kd H (.int i) .int
  | str (x : Str) : Kd H (.str x) .str
  | lst {a : Addr} {xs : List V} (e : H a = some (.lst xs)) : Kd H (.ref a) .list
  | tup {a : Addr} {xs : List V} (e : H a = some (.tup xs)) : Kd H (.ref a) .tuple
  | dct {a : Addr} {kvs : List (Key × V)} (e : H a = some (.dK kvs)) : Kd H (.ref a) .dict
theorem Kd.tyx {K : PySem.W.Frag} {H : Hp} {x : V} {t : Ty} (k : Kd H x t) : TyX K H x (.type t.nm) := by
  cases k with
  | non => exact .base .non
  | bl b => exact .base (.bl b)
  | int i => exact .base (.int i)
  | str x => exact .base (.str x)
  | lst e => exact .base (.lst e)
  | tup e => exact .base (.tup e)
  | dct e => exact .base (.dK e)
theorem Kd.ex {H H' : Hp} {x : V} {t : Ty} (k : Kd H x t) (e : Same H H') : Kd H' x t := by
  cases k with
  | non => exact .non
  | bl b => exact .bl b
  | int i => exact .int i
  | str x => exact .str x
  | lst h => exact .lst (e _ _ h)
  | tup h => exact .tup (e _ _ h)
  | dct h => exact .dct (e _ _ h)
theorem kit_int (t : Ty) : kitB t.nm "int" = some (t = .int || t = .bool) := by cases t <;> decide +kernel
theorem kit_bool (t : Ty) : kitB t.nm "bool" = some (decide (t = .bool)) := by cases t <;> decide +kernel
theorem kit_tuple (t : Ty) : kitB t.nm "tuple" = some (decide (t = .tuple)) := by cases t <;> decide +kernel
theorem kit_list (t : Ty) : kitB t.nm "list" = some (decide (t = .list)) := by cases t <;> decide +kernel
/-- isinstance(x, c), the reading -/
theorem isi {K : PySem.W.Frag} {H : Hp} {x : V} {t : Ty} {c : String} {b : Bool} {Q : VK} (k : Kd H x t) (h : kitB t.nm c = some b) (q : Q (.bl b) H) : rIsi K [x, .ty c] H Q :=
  ⟨x, .ty c, .type t.nm, .type c, b, rfl, ClsV.ty c, k.tyx, kit_ty h, q⟩

/-! ### what the top has left -/
/-- what a class of errors must have, to be raised -/
structure Er (K : PySem.W.Frag) (mg : Str → Option Value) (x : Str) (C : Addr) : Prop where
  c : mg x = some (.ref C)
  x : PySem.W.excIn K C [.type "ValueError", .type "Exception", .type "BaseException", .type "object"] "ValueError.__new__" = true
  p : PySem.W.keepIn K (.ref C) = true
  b : PySem.W.subIn K (.ref C) (.type "BaseException") = some true
  t : PySem.W.typeIn K (.ref C) = some (.type "type")
  m : PySem.W.exmOne K (.ref C) (.ref C) = some true
structure Cs where
  (NetError BadNet NoPlace BadPairs BadWay TieThere NoTie OddRing Net : Addr)
/-- D is a class of errors right under NetError, and under no other name -/
structure Leaf (K : PySem.W.Frag) (c : Cs) (D : Addr) : Prop where
  x : ExcC K D
  v : PySem.W.kitOne K (.ref D) (.type "ValueError") = some true
  n : PySem.W.kitOne K (.ref D) (.ref c.NetError) = some true
  l : ∃ b0 b1 b2 b3 b4 b5 b6 : Bool, PySem.W.kitOne K (.ref D) (.ref c.BadNet) = some b0 ∧ PySem.W.kitOne K (.ref D) (.ref c.NoPlace) = some b1 ∧ PySem.W.kitOne K (.ref D) (.ref c.BadPairs) = some b2 ∧ PySem.W.kitOne K (.ref D) (.ref c.BadWay) = some b3 ∧ PySem.W.kitOne K (.ref D) (.ref c.TieThere) = some b4 ∧ PySem.W.kitOne K (.ref D) (.ref c.NoTie) = some b5 ∧ PySem.W.kitOne K (.ref D) (.ref c.OddRing) = some b6 ∧ [b0, b1, b2, b3, b4, b5, b6].count true = 1
structure Top (K : PySem.W.Frag) (mg : Str → Option Value) (c : Cs) : Prop where
  n_isinstance : mg "isinstance" = none
  n_int : mg "int" = none
  n_bool : mg "bool" = none
  n_tuple : mg "tuple" = none
  n_list : mg "list" = none
  n_str : mg "str" = none
  n_len : mg "len" = none
  n_set : mg "set" = none
  n_dict : mg "dict" = none
  n_sorted : mg "sorted" = none
  n_range : mg "range" = none
  n_enumerate : mg "enumerate" = none
  n_zip : mg "zip" = none
  n_all : mg "all" = none
  n_any : mg "any" = none
  n_min : mg "min" = none
  n_max : mg "max" = none
  n_ValueError : mg "ValueError" = none
  e_NetError : Er K mg "NetError" c.NetError
  e_BadNet : Er K mg "BadNet" c.BadNet
  e_NoPlace : Er K mg "NoPlace" c.NoPlace
  e_BadPairs : Er K mg "BadPairs" c.BadPairs
  e_BadWay : Er K mg "BadWay" c.BadWay
  e_TieThere : Er K mg "TieThere" c.TieThere
  e_NoTie : Er K mg "NoTie" c.NoTie
  e_OddRing : Er K mg "OddRing" c.OddRing
  c_Net : mg "Net" = some (.ref c.Net)
  cl_Net : Cls K c.Net
  a_Net_size : NoAttr K c.Net "size"
  a_Net__ties : NoAttr K c.Net "_ties"
  a_Net__near : NoAttr K c.Net "_near"
  l_BadNet : Leaf K c c.BadNet
  l_NoPlace : Leaf K c c.NoPlace
  l_BadPairs : Leaf K c c.BadPairs
  l_BadWay : Leaf K c c.BadWay
  y_Net : PySem.W.findIn K (.ref c.Net) "__class__" = some (some (.builtin "object.__class__")) ∧ PySem.W.specialIn K (.builtin "object.__class__") "__get__" = some (some (.builtin "getset_descriptor.__get__")) ∧ PySem.W.takesIn K (.builtin "object.__class__") = some true ∧ PySem.W.mroIn K c.Net (.type "object") = some true
  k_MOST_PLACES : ∃ t, mg "MOST_PLACES" = some (.int 40 t)
  k_FIGURES : ∃ t, mg "FIGURES" = some (.str "0123456789" t)
  k_MOST_FIGURES : ∃ t, mg "MOST_FIGURES" = some (.int 2 t)
  d_is_number : Fd.Def K mg "is_number" S_is_number ["thing"]
  d_is_place : Fd.Def K mg "is_place" S_is_place ["thing", "size"]
  d_is_tie : Fd.Def K mg "is_tie" S_is_tie ["thing", "size"]
  d_rising_ties : Fd.Def K mg "rising_ties" S_rising_ties ["size", "ties"]
  d_neighbours : Fd.Def K mg "neighbours" S_neighbours ["size", "ties"]
  d_Net___init__ : Fd.IDef K c.Net "Net.__init__" S_Net___init__ ["self", "size", "ties"]
  d_Net_ties : Fd.MDef K c.Net "ties" "Net.ties" S_Net_ties ["self"]
  d_Net_beside : Fd.MDef K c.Net "beside" "Net.beside" S_Net_beside ["self", "place"]
  d_reached : Fd.Def K mg "reached" S_reached ["net", "first", "closed"]
  d_parts : Fd.Def K mg "parts" S_parts ["net", "taken"]
  d_shown : Fd.Def K mg "shown" S_shown ["net"]
  d_number_in : Fd.Def K mg "number_in" S_number_in ["word"]
  d_tie_in : Fd.Def K mg "tie_in" S_tie_in ["word"]
  d_read : Fd.Def K mg "read" S_read ["line"]
  d_checked : Fd.Def K mg "checked" S_checked ["net", "pairs"]
  d_mates_in : Fd.Def K mg "mates_in" S_mates_in ["net", "pairs"]
  d_are_places : Fd.Def K mg "are_places" S_are_places ["net", "way"]
  d_is_way : Fd.Def K mg "is_way" S_is_way ["net", "mates", "way"]
  d_turned : Fd.Def K mg "turned" S_turned ["net", "pairs", "way"]
  d_roads_round : Fd.Def K mg "roads_round" S_roads_round ["roads", "one", "other"]
  d_roads_by : Fd.Def K mg "roads_by" S_roads_by ["roads", "mates", "here", "there"]
  d_way_from : Fd.Def K mg "way_from" S_way_from ["net", "mates", "root"]
  d_better : Fd.Def K mg "better" S_better ["net", "pairs"]
  d_most : Fd.Def K mg "most" S_most ["net"]
  d_without : Fd.Def K mg "without" S_without ["rows", "place"]
  d_freed : Fd.Def K mg "freed" S_freed ["net", "pairs", "place"]
  d_is_beside_one : Fd.Def K mg "is_beside_one" S_is_beside_one ["net", "place", "marked"]
  d_fence : Fd.Def K mg "fence" S_fence ["net"]
  d__law_sole : Fd.Def K mg "_law_sole" S__law_sole ["_law_error"]
  d__law_cell_at : Fd.Def K mg "_law_cell_at" S__law_cell_at ["_law_script", "_law_k"]
  d__law_tied : Fd.Def K mg "_law_tied" S__law_tied ["_law_kind", "_law_cell", "_law_one", "_law_other", "_law_size"]
  d__law_ties_by : Fd.Def K mg "_law_ties_by" S__law_ties_by ["_law_script", "_law_size", "_law_kind"]
  d__law_size_by : Fd.Def K mg "_law_size_by" S__law_size_by ["_law_script", "_law_bound"]
  d__law_kind_by : Fd.Def K mg "_law_kind_by" S__law_kind_by ["_law_script"]
  d__law_great : Fd.Def K mg "_law_great" S__law_great ["_law_script"]
  d__law_net_by : Fd.Def K mg "_law_net_by" S__law_net_by ["_law_script", "_law_bound"]
  d__law_figures : Fd.Def K mg "_law_figures" S__law_figures ["_law_number_here"]
  d__law_text : Fd.Def K mg "_law_text" S__law_text ["_law_size", "_law_ties"]
  d__law_number : Fd.Def K mg "_law_number" S__law_number ["_law_word"]
  d__law_tie : Fd.Def K mg "_law_tie" S__law_tie ["_law_word", "_law_size"]
  d__law_net_of : Fd.Def K mg "_law_net_of" S__law_net_of ["_law_line"]
  d__law_refused : Fd.Def K mg "_law_refused" S__law_refused ["_law_line"]
  d__law_read_alike : Fd.Def K mg "_law_read_alike" S__law_read_alike ["_law_line"]
  d__law_changed : Fd.Def K mg "_law_changed" S__law_changed ["_law_line", "_law_cell", "_law_more"]
  d_law : Fd.Def K mg "law" S_law ["_law_script"]
section
variable {P : Program} {w : World} {K : PySem.W.Frag} {mg : Str → Option Value} {c : Cs} {base : Heap}
def isInt : V → Bool
  | .int _ => true
  | _ => false
theorem Kd.int_iff {H : Hp} {x : V} {t : Ty} (k : Kd H x t) : decide (t = .int) = isInt x := by cases k <;> rfl
def spNumber : Sp := fun vs H Q _ => ∃ x t, vs = [x] ∧ Kd H x t ∧ Q (.bl (isInt x)) H
theorem ok_is_number (T : Top K mg c) : Fd.Has P w K mg base CX0 1 "is_number" ["thing"] spNumber := by
  refine T.d_is_number.ok sc_is_number (fun vs H Q E h => ?_) (fun f cdv A outer s H vs Q E hr h => ?_)
  · obtain ⟨x, t, rfl, _⟩ := h; rfl
  · obtain ⟨x, t, rfl, k, q⟩ := h
    refine ⟨_, (pss_one (ps_ret (pe_and (pe_callB (r := rIsi K) call_isi (by rfl) T.n_isinstance boot_isinstance (pa_cons (pv 0) (pa_cons (pe_bltn (v := .ty "int") (by rfl) T.n_int boot_int rfl) pa_nil))) (pe_one (pe_not (pe_callB (r := rIsi K) call_isi (by rfl) T.n_isinstance boot_isinstance (pa_cons (pv 0) (pa_cons (pe_bltn (v := .ty "bool") (by rfl) T.n_bool boot_bool rfl) pa_nil)))))))), ?_⟩
    refine ⟨x, rfl, _, _, _, _, _, rfl, ClsV.ty _, k.tyx, kit_ty (kit_int t), _, rfl, ?_⟩
    have hv := k.int_iff
    by_cases c : (t = .int || t = .bool) = true
    · rw [if_pos c]
      refine ⟨x, rfl, _, _, _, _, _, rfl, ClsV.ty _, k.tyx, kit_ty (kit_bool t), _, rfl, ?_⟩
      show Q (.bl (!decide (t = .bool))) H
      have e : (!decide (t = .bool)) = isInt x := by
        rw [← hv]; revert c; cases t <;> simp
      rw [e]; exact q
    · rw [if_neg c]
      show Q (.bl false) H
      have e : false = isInt x := by
        rw [← hv]; revert c; cases t <;> simp
      rw [e]; exact q
def isPl (x : V) (n : Int) : Bool := match x with
  | .int i => decide (0 ≤ i ∧ i < n)
  | _ => false
def spPlace : Sp := fun vs H Q _ => ∃ x t n, vs = [x, .int n] ∧ Kd H x t ∧ Q (.bl (isPl x n)) H
theorem ok_is_place (T : Top K mg c) : Fd.Has P w K mg base CX0 2 "is_place" ["thing", "size"] spPlace := by
  have G_is_number : Fd.Has P w K mg base CX0 1 "is_number" ["thing"] spNumber := ok_is_number T
  refine T.d_is_place.ok sc_is_place (fun vs H Q E h => ?_) (fun f cdv A outer s H vs Q E hr h => ?_)
  · obtain ⟨x, t, n, rfl, _⟩ := h; rfl
  · obtain ⟨x, t, n, rfl, k, q⟩ := h
    have hr_is_number := hr
    refine ⟨_, (pss_one (ps_ret (pe_and (Fd.pe_f G_is_number hr_is_number (by rfl) (pa_cons (pv 0) pa_nil)) (pe_one (pe_chain op_le op_lt pe_int (pv 0) (pv 1)))))), ?_⟩
    refine ⟨x, rfl, x, t, rfl, k, _, rfl, ?_⟩
    cases x with
    | int i =>
      refine iteT ⟨_, rfl, 0, i, rfl, rfl, _, rfl, ?_⟩
      by_cases c : (0 : Int) ≤ i
      · rw [decide_eq_true c]
        refine iteT ⟨_, rfl, i, n, rfl, rfl, ?_⟩
        have e : isPl (.int i) n = decide (i < n) := by
          show decide (0 ≤ i ∧ i < n) = _
          by_cases d : i < n
          · rw [decide_eq_true d, decide_eq_true ⟨c, d⟩]
          · rw [decide_eq_false d, decide_eq_false fun z => d z.2]
        rw [e] at q; exact q
      · rw [decide_eq_false c]
        refine iteF ?_
        have e : isPl (.int i) n = false := decide_eq_false fun z => c z.1
        rw [e] at q; exact q
    | _ => exact iteF q

/-- the items of a tuple -/
def tupOf (H : Hp) : V → Option (List V)
  | .ref a => match H a with
    | some (.tup xs) => some xs
    | _ => none
  | _ => none
theorem tupOf_tup {H : Hp} {a : Addr} {xs : List V} (e : H a = some (.tup xs)) : tupOf H (.ref a) = some xs := by
  show (match H a with
    | some (.tup xs) => some xs
    | _ => none) = some xs
  rw [e]
theorem tupOf_no {H : Hp} {x : V} {t : Ty} (k : Kd H x t) (h : t ≠ .tuple) : tupOf H x = none := by
  cases k with
  | tup e => exact absurd rfl h
  | lst e => unfold tupOf; simp only [e]
  | dct e => unfold tupOf; simp only [e]
  | _ => rfl
/-- its kind, and the kinds of a tuple's items -/
structure Kt (H : Hp) (x : V) (t : Ty) : Prop where
  kd : Kd H x t
  its : ∀ xs, tupOf H x = some xs → ∀ y ∈ xs, ∃ u, Kd H y u
def ltV : V → V → Bool
  | .int i, .int j => decide (i < j)
  | _, _ => false
def tieOf (n : Int) : List V → Bool
  | [u, v] => isPl u n && (isPl v n && ltV u v)
  | _ => false
def isTie (H : Hp) (x : V) (n : Int) : Bool := match tupOf H x with
  | some xs => tieOf n xs
  | none => false
theorem tieOf_len {n : Int} {xs : List V} (h : xs.length ≠ 2) : tieOf n xs = false := by
  match xs, h with
  | [], _ => rfl
  | [_], _ => rfl
  | [_, _], h => exact absurd rfl h
  | _ :: _ :: _ :: _, _ => rfl
theorem isPl_int {x : V} {n : Int} (h : isPl x n = true) : ∃ i, x = .int i ∧ 0 ≤ i ∧ i < n := by
  cases x with
  | int i => exact ⟨i, rfl, of_decide_eq_true h⟩
  | _ => cases h
def spTie : Sp := fun vs H Q _ => ∃ x t n, vs = [x, .int n] ∧ Kt H x t ∧ Q (.bl (isTie H x n)) H
theorem ok_is_tie (T : Top K mg c) : Fd.Has P w K mg base CX0 3 "is_tie" ["thing", "size"] spTie := by
  have G_is_place : Fd.Has P w K mg base CX0 2 "is_place" ["thing", "size"] spPlace := ok_is_place T
  refine T.d_is_tie.ok sc_is_tie (fun vs H Q E h => ?_) (fun f cdv A outer s H vs Q E hr h => ?_)
  · obtain ⟨x, t, n, rfl, _⟩ := h; rfl
  · obtain ⟨x, t, n, rfl, k, q⟩ := h
    have hr_is_place := hr
    refine ⟨_, (pss_cons (ps_if (PW.pt (pw_or (pt_not (pt_val (pe_callB (r := rIsi K) call_isi (by rfl) T.n_isinstance boot_isinstance (pa_cons (pv 0) (pa_cons (pe_bltn (v := .ty "tuple") (by rfl) T.n_tuple boot_tuple rfl) pa_nil))))) (pw_or1 (pt_cmpR op_ne (pe_callB call_len_seq (by rfl) T.n_len boot_len (pa_cons (pv 0) pa_nil)) pe_int (nomark _)))))
      (pss_one (ps_ret pe_bl))
      pss_nil)
      (pss_cons (ps_asg (pv 0) (pg_tup rfl (pgs_cons (pg_name (i := 2) sc_is_tie.nd rfl (Or.inl rfl)) (pgs_cons (pg_name (i := 3) sc_is_tie.nd rfl (Or.inl rfl)) pgs_nil))))
      (pss_one (ps_ret (pe_and (Fd.pe_f G_is_place hr_is_place (by rfl) (pa_cons (pv 2) (pa_cons (pv 1) pa_nil))) (pe_and (Fd.pe_f G_is_place hr_is_place (by rfl) (pa_cons (pv 3) (pa_cons (pv 1) pa_nil))) (pe_one (pe_cmpR op_lt (pv 2) (pv 3) (nomark _))))))))), ?_⟩
    refine ⟨x, rfl, _, _, _, _, _, rfl, ClsV.ty _, k.kd.tyx, kit_ty (kit_tuple t), _, rfl, ?_⟩
    by_cases c : t = .tuple
    · subst c
      rw [decide_eq_true rfl]
      refine iteF ?_
      have kd := k.kd
      cases kd with
      | @tup a xs e =>
      have eT := tupOf_tup e
      refine ⟨_, rfl, a, xs, rfl, .inr (SqT.of e), rfl, _, rfl, ?_⟩
      by_cases d : xs.length = 2
      · obtain ⟨u, v, rfl⟩ : ∃ u v, xs = [u, v] := by
          match xs, d with
          | [u, v], _ => exact ⟨u, v, rfl⟩
        refine iteF ?_
        obtain ⟨tu, ku⟩ := k.its _ eT u (by simp)
        obtain ⟨tv, kv⟩ := k.its _ eT v (by simp)
        have qe : isTie H (.ref a) n = (isPl u n && (isPl v n && ltV u v)) := by unfold isTie; rw [eT]; rfl
        rw [qe] at q
        refine ⟨_, rfl, a, _, rfl, SqT.of e, rfl, _, _, rfl, _, _, rfl, rfl, _, rfl, _, rfl, u, tu, n, rfl, ku, _, rfl, ?_⟩
        cases hu : isPl u n with
        | false => rw [hu] at q; exact iteF q
        | true =>
          refine iteT ⟨_, rfl, _, rfl, v, tv, n, rfl, kv, _, rfl, ?_⟩
          rw [hu] at q
          cases hv : isPl v n with
          | false => rw [hv] at q; exact iteF q
          | true =>
            obtain ⟨i, rfl, _⟩ := isPl_int hu
            obtain ⟨j, rfl, _⟩ := isPl_int hv
            rw [hv] at q
            exact iteT ⟨_, rfl, _, rfl, i, j, rfl, rfl, q⟩
      · have e1 : decide (V.int (xs.length : Nat) = V.int 2) = false := decide_eq_false fun z => by
          injection z with z; omega
        rw [e1]
        refine iteT ?_
        have qe : isTie H (.ref a) n = false := by unfold isTie; rw [eT]; exact tieOf_len d
        rw [qe] at q
        exact q
    · rw [decide_eq_false c]
      refine iteT ?_
      have qe : isTie H x n = false := by unfold isTie; rw [tupOf_no k.kd c]
      rw [qe] at q
      exact q
end
end Od

namespace Od
open PySem PySem.Spec PyProof.Rows L2
/-! ### ties handed in -/
def listOf (H : Hp) : V → Option (List V)
  | .ref a => match H a with
    | some (.lst xs) => some xs
    | _ => none
  | _ => none
theorem listOf_lst {H : Hp} {a : Addr} {xs : List V} (e : H a = some (.lst xs)) : listOf H (.ref a) = some xs := by
  unfold listOf; simp only [e]
theorem Kd.list_of {H : Hp} {x : V} (k : Kd H x .list) : ∃ a xs, x = .ref a ∧ H a = some (.lst xs) := by
  cases k with
  | lst e => exact ⟨_, _, rfl, e⟩
theorem Kd.tup_of {H : Hp} {x : V} (k : Kd H x .tuple) : ∃ a xs, x = .ref a ∧ H a = some (.tup xs) := by
  cases k with
  | tup e => exact ⟨_, _, rfl, e⟩
theorem listOf_no {H : Hp} {x : V} {t : Ty} (k : Kd H x t) (h : t ≠ .list) : listOf H x = none := by
  cases k with
  | lst e => exact absurd rfl h
  | tup e => unfold listOf; simp only [e]
  | dct e => unfold listOf; simp only [e]
  | _ => rfl
theorem tupOf_ex {H H' : Hp} {x : V} {t : Ty} (k : Kd H x t) (e : Same H H') : tupOf H' x = tupOf H x := by
  cases k with
  | tup h => rw [tupOf_tup h, tupOf_tup (e _ _ h)]
  | lst h => rw [tupOf_no (.lst h) (by decide), tupOf_no (.lst (e _ _ h)) (by decide)]
  | dct h => rw [tupOf_no (.dct h) (by decide), tupOf_no (.dct (e _ _ h)) (by decide)]
  | _ => rfl
theorem Kt.ex {H H' : Hp} {x : V} {t : Ty} (k : Kt H x t) (e : Same H H') : Kt H' x t := by
  refine ⟨k.kd.ex e, fun xs h y hy => ?_⟩
  rw [tupOf_ex k.kd e] at h
  obtain ⟨u, q⟩ := k.its xs h y hy
  exact ⟨u, q.ex e⟩
theorem isTie_ex {H H' : Hp} {x : V} {t : Ty} {n : Int} (k : Kt H x t) (e : Same H H') : isTie H' x n = isTie H x n := by
  unfold isTie; rw [tupOf_ex k.kd e]
abbrev Pr := Int × Int
def plt (p q : Pr) : Prop := p.1 < q.1 ∨ (p.1 = q.1 ∧ p.2 < q.2)
def prl (p : Pr) : List Int := [p.1, p.2]
theorem prl_inj {p q : Pr} (h : prl p = prl q) : p = q := by
  obtain ⟨a, b⟩ := p; obtain ⟨c, d⟩ := q
  injection h with h1 h2; injection h2 with h2 _
  cases h1; cases h2; rfl
def prOf (H : Hp) (x : V) : Pr := match tupOf H x with
  | some [.int i, .int j] => (i, j)
  | _ => (0, 0)
/-- a pair that is a tie in a net of size n -/
def Tie (n : Int) (p : Pr) : Prop := 0 ≤ p.1 ∧ p.1 < p.2 ∧ p.2 < n
theorem isTie_iff {H : Hp} {x : V} {n : Int} (h : isTie H x n = true) : tupOf H x = some [.int (prOf H x).1, .int (prOf H x).2] ∧ Tie n (prOf H x) := by
  unfold isTie at h
  cases e : tupOf H x with
  | none => rw [e] at h; cases h
  | some xs =>
    rw [e] at h
    match xs, h with
    | [u, v], h =>
      have h' : (isPl u n && (isPl v n && ltV u v)) = true := h
      rw [Bool.and_eq_true, Bool.and_eq_true] at h'
      obtain ⟨h1, h2, h3⟩ := h'
      obtain ⟨i, rfl, a, b⟩ := isPl_int h1
      obtain ⟨j, rfl, c, d⟩ := isPl_int h2
      have f : prOf H x = (i, j) := by unfold prOf; rw [e]
      rw [f]
      exact ⟨rfl, a, of_decide_eq_true h3, d⟩
theorem isTie_of {H : Hp} {x : V} {n : Int} {i j : Int} (e : tupOf H x = some [.int i, .int j]) (h : Tie n (i, j)) : isTie H x n = true ∧ prOf H x = (i, j) := by
  obtain ⟨a, b, c⟩ := h
  simp only at a b c
  constructor
  · unfold isTie; rw [e]
    show (decide (0 ≤ i ∧ i < n) && (decide (0 ≤ j ∧ j < n) && decide (i < j))) = true
    rw [decide_eq_true ⟨a, by omega⟩, decide_eq_true ⟨by omega, c⟩, decide_eq_true b]; rfl
  · unfold prOf; rw [e]
structure Kl (H : Hp) (x : V) (t : Ty) : Prop where
  kd : Kd H x t
  its : ∀ xs, listOf H x = some xs → ∀ y ∈ xs, ∃ u, Kt H y u
structure OkTies (H : Hp) (n : Int) (xs : List V) : Prop where
  all : ∀ y ∈ xs, isTie H y n = true
  one : (xs.map (prOf H)).Nodup
/-- us are new tuples, the pairs ts -/
def NewPrs (H H' : Hp) (us : List V) (ts : List Pr) : Prop := Paired (fun u (p : Pr) => ∃ a, u = V.ref a ∧ H a = none ∧ H' a = some (.tup [.int p.1, .int p.2])) us ts
def spRising (C : Addr) : Sp := fun vs H Q E => ∃ n x t, vs = [.int n, x] ∧ n ≤ 40 ∧ Kl H x t ∧
  ((∃ xs, listOf H x = some xs ∧ OkTies H n xs ∧ ∀ (ts : List Pr) p us H', ts.Perm (xs.map (prOf H)) → ts.Pairwise plt → H p = none → Same H H' → H' p = some (.lst us) → NewPrs H H' us ts → Q (.ref p) H') ∨
  ((∀ xs, listOf H x = some xs → ¬ OkTies H n xs) ∧ ∀ H', Same H H' → E (.ref C) none H'))

/-- pairs below forty, each once, are fewer than a thousand -/
theorem few_ties {n : Int} (hn : n ≤ 40) {ps : List Pr} (h : ∀ p ∈ ps, Tie n p) (nd : ps.Nodup) : ps.length ≤ 800 := by
  let c1 : Pr → Nat := fun p => p.1.toNat * 40 + p.2.toNat
  let c2 : Pr → Nat := fun p => p.2.toNat * 40 + p.1.toNat
  have key := nat_nodup_len (ps.map c1 ++ ps.map c2) (List.range 1600) ?_ ?_
  · rw [List.length_append, List.length_map, List.length_map, List.length_range] at key
    omega
  · refine List.nodup_append.mpr ⟨List.pairwise_map.mpr (List.Pairwise.imp_of_mem (fun {p q} hp hq ne e => ?_) nd), List.pairwise_map.mpr (List.Pairwise.imp_of_mem (fun {p q} hp hq ne e => ?_) nd), fun x hx y hy e => ?_⟩
    · obtain ⟨a, b, c⟩ := h p hp
      obtain ⟨a', b', c'⟩ := h q hq
      have e' : p.1.toNat * 40 + p.2.toNat = q.1.toNat * 40 + q.2.toNat := e
      exact ne (Prod.ext (by omega) (by omega))
    · obtain ⟨a, b, c⟩ := h p hp
      obtain ⟨a', b', c'⟩ := h q hq
      have e' : p.2.toNat * 40 + p.1.toNat = q.2.toNat * 40 + q.1.toNat := e
      exact ne (Prod.ext (by omega) (by omega))
    · obtain ⟨p, hp, rfl⟩ := List.mem_map.mp hx
      obtain ⟨q, hq, rfl⟩ := List.mem_map.mp hy
      obtain ⟨a, b, c⟩ := h p hp
      obtain ⟨a', b', c'⟩ := h q hq
      have e' : p.1.toNat * 40 + p.2.toNat = q.2.toNat * 40 + q.1.toNat := e
      omega
  · intro x hx
    rw [List.mem_range]
    rcases List.mem_append.mp hx with z | z
    · obtain ⟨p, hp, rfl⟩ := List.mem_map.mp z
      obtain ⟨a, b, c⟩ := h p hp
      show p.1.toNat * 40 + p.2.toNat < 1600
      omega
    · obtain ⟨p, hp, rfl⟩ := List.mem_map.mp z
      obtain ⟨a, b, c⟩ := h p hp
      show p.2.toNat * 40 + p.1.toNat < 1600
      omega
theorem Same.new {H : Hp} {p : Addr} {o : HO} (h : H p = none) : Same H (upd H p o) := fun a u e => by
  rw [upd_ne (ne_of_none e h)]; exact e
theorem Same.mut {H H' : Hp} {p : Addr} {o : HO} (e : Same H H') (h : H p = none) : Same H (upd H' p o) := fun a u ha => by
  rw [upd_ne (ne_of_none ha h)]; exact e a u ha

section
variable {P : Program} {w : World} {K : PySem.W.Frag} {mg : Str → Option Value} {c : Cs} {base : Heap}
theorem ok_rising_ties (T : Top K mg c) : Fd.Has P w K mg base (L2N.CX P w) 4 "rising_ties" ["size", "ties"] (spRising c.BadNet) := by
  have G_is_tie : Fd.Has P w K mg base CX0 3 "is_tie" ["thing", "size"] spTie   := ok_is_tie T
  refine T.d_rising_ties.okN sc_rising_ties (fun vs H Q E h => ?_) (fun f cdv A outer s H vs Q E hr h => ?_)
  · obtain ⟨n, x, t, rfl, _⟩ := h; rfl
  · obtain ⟨n, x, t, rfl, hn, k, hres⟩ := h
    have hr_is_tie := hr
    refine ⟨_, (pss_cons (ps_if (pt_not (pt_val (pe_callB (r := rIsi K) call_isi (by rfl) T.n_isinstance boot_isinstance (pa_cons (pv 1) (pa_cons (pe_bltn (v := .ty "list") (by rfl) T.n_list boot_list rfl) pa_nil)))))
      (pss_one (L2N.ps_raise rfl (L2N.takes_of rfl rfl rfl rfl) (L2N.pmk_own PySem.F.excBase_ValueError T.e_BadNet.x T.e_BadNet.c T.e_BadNet.p (raises_own T.e_BadNet.b T.e_BadNet.t) (by rfl))))
      pss_nil)
      (pss_cons (ps_set (i := 2) sc_rising_ties.nd rfl (Or.inl rfl) (pe_callTy0 Bs.cr_new (by rfl) T.n_set boot_set))
      (pss_cons (ps_for (L2.passes_of rfl) rfl (pi_list (pv 1)) (pg_name (i := 3) sc_rising_ties.nd rfl (Or.inl rfl))
      (pss_cons (ps_if (pt_not (pt_val (Fd.pe_f G_is_tie hr_is_tie (by rfl) (pa_cons (pv 3) (pa_cons (pv 0) pa_nil)))))
        (pss_one (L2N.ps_raise rfl (L2N.takes_of rfl rfl rfl rfl) (L2N.pmk_own PySem.F.excBase_ValueError T.e_BadNet.x T.e_BadNet.c T.e_BadNet.p (raises_own T.e_BadNet.b T.e_BadNet.t) (by rfl))))
        pss_nil)
        (pss_cons (ps_asg (pv 3) (pg_tup rfl (pgs_cons (pg_name (i := 4) sc_rising_ties.nd rfl (Or.inl rfl)) (pgs_cons (pg_name (i := 5) sc_rising_ties.nd rfl (Or.inl rfl)) pgs_nil))))
        (pss_cons (ps_if (pt_cmpR (Bs.or_in hr.units) (pe_tup (pa_cons (pv 4) (pa_cons (pv 5) pa_nil))) (pv 2) (by rfl))
        (pss_one (L2N.ps_raise rfl (L2N.takes_of rfl rfl rfl rfl) (L2N.pmk_own PySem.F.excBase_ValueError T.e_BadNet.x T.e_BadNet.c T.e_BadNet.p (raises_own T.e_BadNet.b T.e_BadNet.t) (by rfl))))
        pss_nil)
        (pss_one (ps_expr (Bs.pe_add hr.units (pv 2) (pa_cons (pe_tup (pa_cons (pv 4) (pa_cons (pv 5) pa_nil))) pa_nil))))))))
      (pss_one (ps_ret (pe_callB (Bs.cr_sorted rfl) (by rfl) T.n_sorted boot_sorted (pa_cons (pv 2) pa_nil))))))), ?_⟩
    have bad : ∀ H', Same H H' → (∀ xs, listOf H x = some xs → ¬ OkTies H n xs) → E (.ref c.BadNet) none H' := fun H' s5 z => by
      rcases hres with ⟨xs, e, ok, _⟩ | ⟨_, q⟩
      · exact absurd ok (z xs e)
      · exact q H' s5
    refine ⟨x, rfl, _, _, _, _, _, rfl, ClsV.ty _, k.kd.tyx, kit_ty (kit_list t), _, rfl, ?_⟩
    by_cases ct : t = .list
    · subst ct
      rw [decide_eq_true rfl]
      refine iteF ?_
      obtain ⟨a, xs, rfl, ea⟩ := k.kd.list_of
      have eL := listOf_lst ea
      refine ⟨rfl, fun p hp => ?_⟩
      refine ⟨_, rfl, a, rfl, ⟨xs, SqL.of ((Same.new hp) _ _ ea)⟩, for_list (K := K) (a := a) (xs := xs) (fun i σ Hc => ∃ v3 v4 v5 L, σ = [some (.int n), some (.ref a), some (.ref p), v3, v4, v5] ∧ Same H Hc ∧ Hc p = some (Bs.SO P w p L) ∧ Bs.Tups K Hc L ∧ (∀ q ∈ L, H q.1 = none ∧ Hc q.1 = some (.tup (q.2.map V.int))) ∧
          (L.map (·.2)).Perm ((xs.take i).map fun y => prl (prOf H y)) ∧ OkTies H n (xs.take i))
        ⟨none, none, none, [], rfl, Same.new hp, upd_same, fun q z => (by cases z), fun q z => (by cases z), List.Perm.refl _, ⟨fun y z => (by cases z), List.nodup_nil⟩⟩ (fun i σ Hc _ ⟨_, _, _, _, _, s5, _⟩ => s5.seq (SqL.of ea)) ?_ ?_⟩
      · rintro i y σ Hc hi ⟨v3, v4, v5, L, rfl, s5, hp5, tp, fr, pm, ok⟩
        have hm : y ∈ xs := List.mem_of_getElem? hi
        obtain ⟨u, ky⟩ := k.its xs eL y hm
        have tk : xs.take (i + 1) = xs.take i ++ [y] := by rw [List.take_succ, hi]; rfl
        refine ⟨_, rfl, _, rfl, y, u, n, rfl, ky.ex s5, _, rfl, ?_⟩
        rw [isTie_ex ky s5]
        cases ht : isTie H y n with
        | false =>
          refine iteT ?_
          exact bad Hc s5 fun xs' e o => by
            rw [eL] at e; cases e
            rw [o.all y hm] at ht; cases ht
        | true =>
          refine iteF ?_
          obtain ⟨ey, hty⟩ := isTie_iff ht
          obtain ⟨b, bs, rfl, eb⟩ : ∃ b bs, y = .ref b ∧ H b = some (.tup bs) := by
            cases ky.kd with
            | @tup b bs e => exact ⟨b, bs, rfl, e⟩
            | lst e => rw [tupOf_no (.lst e) (by decide)] at ey; cases ey
            | dct e => rw [tupOf_no (.dct e) (by decide)] at ey; cases ey
            | _ => cases ey
          rw [tupOf_tup eb] at ey
          cases ey
          generalize hpr : prOf H (.ref b) = pr at eb hty
          refine ⟨_, rfl, b, _, rfl, SqT.of (s5 _ _ eb), rfl, _, _, rfl, _, _, rfl, rfl, ?_⟩
          refine ⟨_, rfl, _, rfl, (by show 2 ≤ sizeLine; decide), fun q hq => ?_⟩
          have npq : p ≠ q := ne_of_none hp5 hq
          have keep : ∀ {q' : Addr} {o : HO}, Hc q' = none → Bs.Tups K (upd Hc q' o) L := fun {q' o} hq' z hz => by
            have h1 := tp z hz
            obtain ⟨_, h2⟩ := fr z hz
            rcases h1 with (h1 | ⟨o', h1⟩) | h1
            · exact .inl (.inl (by rw [upd_ne (ne_of_none h1 hq')]; exact h1))
            · exact .inl (.inr ⟨o', by rw [upd_ne (ne_of_none h1 hq')]; exact h1⟩)
            · exact .inr h1
          refine ⟨_, rfl, q, prl pr, p, L, rfl, rfl, SqT.of upd_same, by rw [upd_ne npq]; exact hp5, keep hq, _, rfl, ?_⟩
          rw [Bool.false_xor]
          have inL : prl pr ∈ L.map (·.2) ↔ pr ∈ (xs.take i).map (prOf H) := by
            rw [pm.mem_iff]
            constructor
            · intro z
              obtain ⟨z1, h1, h2⟩ := List.mem_map.mp z
              exact List.mem_map.mpr ⟨z1, h1, prl_inj h2⟩
            · intro z
              obtain ⟨z1, h1, h2⟩ := List.mem_map.mp z
              exact List.mem_map.mpr ⟨z1, h1, congrArg prl h2⟩
          by_cases hin : prl pr ∈ L.map (·.2)
          · rw [decide_eq_true hin]
            refine iteT ?_
            refine bad _ (Same.trans s5 (Same.new hq)) fun xs' e o => ?_
            rw [eL] at e; cases e
            have h1 := inL.mp hin
            have h2 := o.one
            rw [← List.take_append_drop i xs, List.map_append] at h2
            have h3 := (List.nodup_append.mp h2).2.2 pr h1 pr (by
              have : (xs.drop i) = (.ref b) :: xs.drop (i + 1) := by
                have hl := (List.getElem?_eq_some_iff.mp hi)
                rw [List.drop_eq_getElem_cons hl.1, hl.2]
              rw [this, List.map_cons, hpr]
              exact List.mem_cons_self)
            exact h3 rfl
          · rw [decide_eq_false hin]
            refine iteF ?_
            have ok' : OkTies H n (xs.take (i + 1)) := by
              rw [tk]
              refine ⟨fun z hz => ?_, ?_⟩
              · rcases List.mem_append.mp hz with z1 | z1
                · exact ok.all z z1
                · rw [List.mem_singleton.mp z1]; exact ht
              · rw [List.map_append]
                refine List.nodup_append.mpr ⟨ok.one, List.pairwise_singleton _ _, fun a' ha' b' hb' e => ?_⟩
                rw [List.map_singleton, List.mem_singleton] at hb'
                rw [hb', hpr] at e
                rw [e] at ha'
                exact hin (inL.mpr ha')
            have pm' : ∀ (q2 : Addr), ((q2, prl pr) :: L).map (·.2) |>.Perm ((xs.take (i + 1)).map fun y => prl (prOf H y)) := fun q2 => by
              rw [tk, List.map_append, List.map_cons]
              refine List.Perm.trans (List.Perm.cons _ pm) ?_
              rw [List.map_singleton, hpr]
              exact (List.perm_append_singleton _ _).symm
            have len : L.length + 1 < 1200 := by
              have h1 := (pm' 0).length_eq
              rw [List.length_map, List.length_map, List.length_cons] at h1
              have h2 := few_ties hn (ps := (xs.take (i + 1)).map (prOf H)) (fun p hp => by
                obtain ⟨z, hz, rfl⟩ := List.mem_map.mp hp
                exact (isTie_iff (ok'.all z hz)).2) ok'.one
              rw [List.length_map] at h2
              omega
            refine ⟨_, rfl, ⟨p, L, rfl, by rw [upd_ne npq]; exact hp5⟩, ?_⟩
            refine ⟨_, rfl, _, rfl, (by show 2 ≤ sizeLine; decide), fun r hr' => ?_⟩
            have hrc : Hc r = none := by
              by_cases z : r = q
              · rw [z, upd_same] at hr'; cases hr'
              · rw [upd_ne z] at hr'; exact hr'
            have npr : p ≠ r := ne_of_none hp5 hrc
            have nqr : q ≠ r := fun z => by rw [← z, upd_same] at hr'; cases hr'
            have tp2 : Bs.Tups K (upd (upd Hc q (.tup [V.int pr.1, V.int pr.2])) r (.tup [V.int pr.1, V.int pr.2])) L := fun z hz => by
              have h1 := tp z hz
              rcases h1 with (h1 | ⟨o', h1⟩) | h1
              · exact .inl (.inl (by rw [upd_ne (ne_of_none h1 hrc), upd_ne (ne_of_none h1 hq)]; exact h1))
              · exact .inl (.inr ⟨o', by rw [upd_ne (ne_of_none h1 hrc), upd_ne (ne_of_none h1 hq)]; exact h1⟩)
              · exact .inr h1
            refine ⟨p, r, prl pr, L, rfl, rfl, by rw [upd_ne npr, upd_ne npq]; exact hp5, SqT.of upd_same, tp2, len, fun L' _ hL' => ?_⟩
            have pL := hL' hin
            refine ⟨_, _, _, L', rfl, Same.mut (Same.trans (Same.trans s5 (Same.new hq)) (Same.new hr')) hp, upd_same, fun z hz => ?_, fun z hz => ?_, (pL.map (·.2)).trans (pm' r), ok'⟩
            · rcases List.mem_cons.mp (pL.mem_iff.mp hz) with rfl | hz
              · exact SqT.of (by rw [upd_ne npr.symm]; exact upd_same)
              · have np : z.1 ≠ p := fun e => by
                  obtain ⟨_, h2⟩ := fr z hz
                  rw [e, hp5] at h2; cases h2
                rcases tp2 z hz with (h1 | ⟨o', h1⟩) | h1
                · exact .inl (.inl (by rw [upd_ne np]; exact h1))
                · exact .inl (.inr ⟨o', by rw [upd_ne np]; exact h1⟩)
                · exact .inr h1
            · rcases List.mem_cons.mp (pL.mem_iff.mp hz) with rfl | hz
              · exact ⟨s5.free hrc, by rw [upd_ne npr.symm]; exact upd_same⟩
              · obtain ⟨h0, h2⟩ := fr z hz
                have np : z.1 ≠ p := fun e => by rw [e, hp5] at h2; cases h2
                exact ⟨h0, by rw [upd_ne np, upd_ne (ne_of_none h2 hrc), upd_ne (ne_of_none h2 hq)]; exact h2⟩
      · rintro σ Hc ⟨v3, v4, v5, L, rfl, s5, hp5, tp, fr, pm, ok⟩
        rw [List.take_length] at pm ok
        rcases hres with ⟨xs', e, _, q⟩ | ⟨z, _⟩
        · rw [eL] at e; cases e
          have two : ∀ z ∈ L, ∃ pr : Pr, z.2 = prl pr := fun z hz => by
            obtain ⟨y, _, e⟩ := List.mem_map.mp (pm.mem_iff.mp (List.mem_map.mpr ⟨z, hz, rfl⟩))
            exact ⟨_, e.symm⟩
          refine ⟨_, rfl, p, L, rfl, hp5, tp, fun z hz => ?_, fun L' r pL nd pw hr' => ?_⟩
          · obtain ⟨pr, e⟩ := two z hz
            exact ⟨pr.1, pr.2, e⟩
          · have hrH : H r = none := s5.free hr'
            have two' : ∀ z ∈ L', z.2 = prl (z.2.headD 0, z.2.getD 1 0) := fun z hz => by
              obtain ⟨pr, e⟩ := two z (pL.mem_iff.mp hz)
              rw [e]; rfl
            refine q (L'.map fun z => (z.2.headD 0, z.2.getD 1 0)) r _ _ ?_ ?_ hrH (Same.trans s5 (Same.new hr')) upd_same ?_
            · -- the pairs are those
              have h1 : (L'.map (·.2)).Perm (xs.map fun y => prl (prOf H y)) := (pL.map (·.2)).trans pm
              have h2 := h1.map fun l : List Int => (l.headD 0, l.getD 1 0)
              rw [List.map_map, List.map_map] at h2
              exact h2
            · refine List.pairwise_map.mpr ?_
              have nd' : L'.Pairwise fun a b => a.2 ≠ b.2 := List.pairwise_map.mp nd
              refine List.Pairwise.imp_of_mem (fun {a b} ha hb hab => ?_) (pw.and nd')
              obtain ⟨h1, h2⟩ := hab
              have h3 : ¬ plt (b.2.headD 0, b.2.getD 1 0) (a.2.headD 0, a.2.getD 1 0) := SrtO.lexB_no.mp h1
              have h4 : (a.2.headD 0, a.2.getD 1 0) ≠ (b.2.headD 0, b.2.getD 1 0) := fun z => h2 (by rw [two' a ha, two' b hb, z])
              generalize (a.2.headD 0, a.2.getD 1 0) = u at h3 h4 ⊢
              generalize (b.2.headD 0, b.2.getD 1 0) = v at h3 h4 ⊢
              obtain ⟨u1, u2⟩ := u
              obtain ⟨v1, v2⟩ := v
              unfold plt at h3 ⊢
              simp only at h3 ⊢
              have h5 : ¬ (u1 = v1 ∧ u2 = v2) := fun z => h4 (by rw [z.1, z.2])
              omega
            · -- new tuples
              have key : ∀ M : List (Addr × List Int), (∀ z ∈ M, z ∈ L') → NewPrs H (upd Hc r (.lst (L'.map fun z => V.ref z.1))) (M.map fun z => V.ref z.1) (M.map fun z => (z.2.headD 0, z.2.getD 1 0)) := by
                intro M
                induction M with
                | nil => intro _; exact .nil
                | cons z M ih =>
                  intro hM
                  have hz := hM z List.mem_cons_self
                  have hzL := pL.mem_iff.mp hz
                  obtain ⟨h0, h2⟩ := fr z hzL
                  refine .cons ⟨z.1, rfl, h0, ?_⟩ (ih fun y hy => hM y (List.mem_cons_of_mem _ hy))
                  rw [upd_ne (ne_of_none h2 hr')]
                  rw [two' z hz] at h2
                  exact h2
              exact key L' fun z hz => hz
        · exact absurd ok (z xs eL)
    · rw [decide_eq_false ct]
      refine iteT ?_
      exact bad H (Same.refl H) fun xs e => by rw [listOf_no k.kd ct] at e; cases e
end
end Od

namespace Od
open PySem PySem.Spec PyProof.Rows L2
theorem tyes {σ : St} {H : Hp} {Q : Bool → Hp → Prop} (h : Q true H) : tYes σ H Q := h
/-! ### neighbours -/
def nbs (i : Int) (acc : List Int) (p : Pr) : List Int := if p.1 = i then acc ++ [p.2] else if p.2 = i then acc ++ [p.1] else acc
/-- the places beside i, in the order of the ties -/
def nbr (ts : List Pr) (i : Int) : List Int := ts.foldl (nbs i) []
theorem nbr_snoc (ts : List Pr) (p : Pr) (i : Int) : nbr (ts ++ [p]) i = nbs i (nbr ts i) p := by
  unfold nbr; rw [List.foldl_append]; rfl
theorem nbs_len (i : Int) (acc : List Int) (p : Pr) : (nbs i acc p).length ≤ acc.length + 1 := by
  unfold nbs
  by_cases a : p.1 = i
  · rw [if_pos a, List.length_append]; exact Nat.le_refl _
  · rw [if_neg a]
    by_cases b : p.2 = i
    · rw [if_pos b, List.length_append]; exact Nat.le_refl _
    · rw [if_neg b]; exact Nat.le_succ _
theorem nbr_len (i : Int) : ∀ (ts : List Pr) (acc : List Int), (ts.foldl (nbs i) acc).length ≤ acc.length + ts.length
  | [], acc => Nat.le_refl _
  | p :: ts, acc => by
    have h1 := nbr_len i ts (nbs i acc p)
    have h2 := nbs_len i acc p
    rw [List.foldl_cons, List.length_cons]
    omega
/-- us are tuples that stand, the pairs ts -/
def Prs (H : Hp) (us : List V) (ts : List Pr) : Prop := Paired (fun u (p : Pr) => ∃ a, u = V.ref a ∧ H a = some (.tup [.int p.1, .int p.2])) us ts
theorem Prs.ex {H H' : Hp} (e : Same H H') : ∀ {us : List V} {ts : List Pr}, Prs H us ts → Prs H' us ts
  | _, _, .nil => .nil
  | _, _, .cons ⟨a, h1, h2⟩ t => .cons ⟨a, h1, e _ _ h2⟩ (Prs.ex e t)
theorem NewPrs.prs {H H' : Hp} : ∀ {us : List V} {ts : List Pr}, NewPrs H H' us ts → Prs H' us ts
  | _, _, .nil => .nil
  | _, _, .cons ⟨a, h1, _, h2⟩ t => .cons ⟨a, h1, h2⟩ (NewPrs.prs t)
theorem Prs.get {H : Hp} : ∀ {us : List V} {ts : List Pr} {i : Nat} {u : V}, Prs H us ts → us[i]? = some u → ∃ p a, ts[i]? = some p ∧ u = .ref a ∧ H a = some (.tup [.int p.1, .int p.2])
  | _, _, _, _, .nil, e => by simp at e
  | _, _, 0, _, .cons ⟨a, h1, h2⟩ _, e => by
    simp at e; subst e; exact ⟨_, a, rfl, h1, h2⟩
  | _, _, i + 1, u, .cons _ t, e => by
    obtain ⟨p, a, h1, h2, h3⟩ := Prs.get (i := i) t (by simpa using e)
    exact ⟨p, a, by simpa using h1, h2, h3⟩
theorem Prs.len {H : Hp} {us : List V} {ts : List Pr} (h : Prs H us ts) : us.length = ts.length := Paired.length h
/-- at p a list of n lists of ints, all of them new -/
structure RowsAt (H H' : Hp) (p : Addr) (n : Nat) (f : Nat → List Int) (rs : List Addr) : Prop where
  len : rs.length = n
  nd : rs.Nodup
  at_ : H' p = some (.lst (rs.map V.ref))
  new : H p = none
  rnew : ∀ a ∈ rs, H a = none
  row : ∀ i a, rs[i]? = some a → H' a = some (.lst ((f i).map V.int))
theorem RowsAt.ne {H H' : Hp} {p : Addr} {n : Nat} {f : Nat → List Int} {rs : List Addr} (R : RowsAt H H' p n f rs) {a : Addr} (ha : a ∈ rs) : a ≠ p := by
  obtain ⟨i, hi, e⟩ := List.getElem_of_mem ha
  have h1 := R.row i a (by rw [List.getElem?_eq_getElem hi, e])
  intro z
  rw [z, R.at_] at h1
  have h2 := Option.some.inj h1
  injection h2 with h2
  cases rs with
  | nil => cases ha
  | cons b rs =>
    cases hf : f i with
    | nil => rw [hf] at h2; cases h2
    | cons c l => rw [hf] at h2; injection h2 with h3 _; cases h3
/-- one row is made longer -/
theorem RowsAt.set {H H' : Hp} {p : Addr} {n : Nat} {f : Nat → List Int} {rs : List Addr} (R : RowsAt H H' p n f rs) {i : Nat} {a : Addr} (ha : rs[i]? = some a) (x : Int) :
    RowsAt H (upd H' a (.lst ((f i).map V.int ++ [V.int x]))) p n (fun j => if j = i then f i ++ [x] else f j) rs := by
  have hm := List.mem_of_getElem? ha
  refine ⟨R.len, R.nd, by rw [upd_ne (R.ne hm).symm]; exact R.at_, R.new, R.rnew, fun j b hb => ?_⟩
  by_cases c : j = i
  · subst c
    rw [ha] at hb; cases hb
    rw [upd_same, if_pos rfl, List.map_append]; rfl
  · have nab : b ≠ a := fun z => by
      subst z
      have hi := (List.getElem?_eq_some_iff.mp ha)
      have hj := (List.getElem?_eq_some_iff.mp hb)
      have pw := List.pairwise_iff_getElem.mp R.nd
      rcases Nat.lt_trichotomy j i with z | z | z
      · exact pw j i hj.1 hi.1 z (by rw [hj.2, hi.2])
      · exact c z
      · exact pw i j hi.1 hj.1 z (by rw [hj.2, hi.2])
    rw [upd_ne nab, if_neg c]
    exact R.row j b hb
theorem RowsAt.keep {H H' H2 : Hp} {p : Addr} {n : Nat} {f : Nat → List Int} {rs : List Addr} (R : RowsAt H H' p n f rs) (e : Same H' H2) : RowsAt H H2 p n f rs :=
  ⟨R.len, R.nd, e _ _ R.at_, R.new, R.rnew, fun i a h => e _ _ (R.row i a h)⟩
def spNeighbours : Sp := fun vs H Q _ => ∃ (n : Nat) (l : Addr) (us : List V) (ts : List Pr), vs = [.int n, .ref l] ∧ n ≤ 40 ∧ H l = some (.lst us) ∧ Prs H us ts ∧ (∀ p ∈ ts, Tie n p) ∧ ts.length ≤ 1000 ∧
  ∀ p rs H', Same H H' → RowsAt H H' p n (fun i => nbr ts (i : Int)) rs → Q (.ref p) H'
section
variable {P : Program} {w : World} {K : PySem.W.Frag} {mg : Str → Option Value} {c : Cs} {base : Heap}
theorem ok_neighbours (T : Top K mg c) : Fd.Has P w K mg base CX0 1 "neighbours" ["size", "ties"] spNeighbours := by
  refine T.d_neighbours.ok sc_neighbours (fun vs H Q E h => ?_) (fun f cdv A outer s H vs Q E hr h => ?_)
  · obtain ⟨n, l, us, ts, rfl, _⟩ := h; rfl
  · obtain ⟨n, l, us, ts, rfl, hn, hl, hp, ht, hz, q⟩ := h
    refine ⟨_, (pss_cons (ps_setLc (i := 2) (own := [("_", 5)]) (g := gName 5) rfl sc_neighbours.nd rfl rfl (sw_true rfl rfl rfl (by decide +kernel)) (pi_range1 (by rfl) T.n_range (pa_cons (pv 0) pa_nil)) (blkOk_by (own := [("_", 5)]) (N := N_neighbours) (sc := defScope S_neighbours) (by decide +kernel)) (fun _ _ _ _ _ => pg_name (i := 5) sc_neighbours.nd rfl (Or.inl rfl)) (fun _ _ _ _ _ => pts_nil) (fun _ _ _ _ _ => (pe_lst pa_nil)))
      (pss_cons (ps_for PassesOwn.never rfl (pi_list (pv 1)) (pg_tup rfl (pgs_cons (pg_name (i := 3) sc_neighbours.nd rfl (Or.inl rfl)) (pgs_cons (pg_name (i := 4) sc_neighbours.nd rfl (Or.inl rfl)) pgs_nil)))
      (pss_cons (ps_expr (pe_bm PySem.F.plainAttrs_list PySem.F.slot_list_append PySem.F.type_list_append mt_append (pe_ix ix_list (pv 2) (pv 3) (fun _ _ => rfl)) (pa_cons (pv 4) pa_nil)))
        (pss_one (ps_expr (pe_bm PySem.F.plainAttrs_list PySem.F.slot_list_append PySem.F.type_list_append mt_append (pe_ix ix_list (pv 2) (pv 4) (fun _ _ => rfl)) (pa_cons (pv 3) pa_nil))))))
      (pss_one (ps_ret (pv 2))))), ?_⟩
    refine ⟨_, rfl, (n : Int), rfl, by omega, by omega, fun D hD => ?_⟩
    have e0 : ((n : Int)).toNat = n := by simp
    refine lc_range (lo := 0) (n := ((n : Int)).toNat) (fun i Hc => ∃ rs, Same H Hc ∧ RowsAt H Hc D i (fun _ => []) rs) ⟨[], Same.new hD, rfl, List.nodup_nil, upd_same, hD, fun a z => (by cases z), fun i a z => (by simp at z)⟩ ?_ ?_
    · rintro i Hc hi ⟨rs, s5, R⟩
      refine ⟨rfl, tyes (iteT ?_)⟩
      refine ⟨Nat.zero_le _, fun r hr' => ?_⟩
      have nDr : D ≠ r := ne_of_none R.at_ hr'
      refine ⟨_, by rw [upd_ne nDr]; exact R.at_, by rw [List.length_map, R.len, sizeLine_eq]; omega, rs ++ [r], Same.mut (Same.trans s5 (Same.new hr')) hD, by rw [List.length_append, R.len]; rfl, ?_, by rw [upd_same, List.map_append]; rfl, hD, fun a ha => ?_, fun j a ha => ?_⟩
      · refine List.nodup_append.mpr ⟨R.nd, List.pairwise_singleton _ _, fun a ha b hb z => ?_⟩
        rw [List.mem_singleton] at hb
        obtain ⟨j, hj, e⟩ := List.getElem_of_mem ha
        have h1 := R.row j a (by rw [List.getElem?_eq_getElem hj, e])
        rw [z, hb, hr'] at h1; cases h1
      · rcases List.mem_append.mp ha with z | z
        · exact R.rnew a z
        · rw [List.mem_singleton.mp z]; exact s5.free hr'
      · by_cases cj : j < rs.length
        · rw [List.getElem?_append_left cj] at ha
          have h1 := R.row j a ha
          rw [upd_ne (R.ne (List.mem_of_getElem? ha)), upd_ne (ne_of_none h1 hr')]
          exact h1
        · rw [List.getElem?_append_right (by omega)] at ha
          have : a = r := by
            cases hk : j - rs.length with
            | zero => rw [hk] at ha; simp at ha; exact ha.symm
            | succ k => rw [hk] at ha; simp at ha
          rw [this, upd_ne nDr.symm, upd_same]; rfl
    · rintro Hc ⟨rs, s5, R⟩
      rw [e0] at R
      refine ⟨_, rfl, l, rfl, ⟨us, SqL.of (s5 _ _ hl)⟩, for_list (K := K) (a := l) (xs := us) (fun i σ H' => ∃ v3 v4, σ = [some (.int n), some (.ref l), some (.ref D), v3, v4, none] ∧ Same H H' ∧ RowsAt H H' D n (fun j => nbr (ts.take i) (j : Int)) rs)
        ⟨none, none, rfl, s5, R⟩ (fun i σ H' _ ⟨_, _, _, s6, _⟩ => s6.seq (SqL.of hl)) ?_ ?_⟩
      · rintro i y σ H' hi ⟨v3, v4, rfl, s6, R6⟩
        obtain ⟨p, t, hti, rfl, htt⟩ := hp.get hi
        have hmem := List.mem_of_getElem? hti
        obtain ⟨b1, b2, b3⟩ := ht p hmem
        obtain ⟨p1, p2⟩ := p
        simp only at b1 b2 b3 htt
        obtain ⟨x1, rfl⟩ : ∃ x1 : Nat, p1 = (x1 : Int) := ⟨p1.toNat, by omega⟩
        obtain ⟨x2, rfl⟩ : ∃ x2 : Nat, p2 = (x2 : Int) := ⟨p2.toNat, by omega⟩
        have tk : ts.take (i + 1) = ts.take i ++ [((x1 : Int), (x2 : Int))] := by rw [List.take_succ, hti]; rfl
        obtain ⟨a1, ha1⟩ : ∃ a, rs[x1]? = some a := ⟨_, List.getElem?_eq_getElem (by rw [R6.len]; omega)⟩
        obtain ⟨a2, ha2⟩ : ∃ a, rs[x2]? = some a := ⟨_, List.getElem?_eq_getElem (by rw [R6.len]; omega)⟩
        have g1 : (rs.map V.ref)[x1]? = some (V.ref a1) := by rw [List.getElem?_map, ha1]; rfl
        have g2 : (rs.map V.ref)[x2]? = some (V.ref a2) := by rw [List.getElem?_map, ha2]; rfl
        have r1 := R6.row x1 a1 ha1
        have small : ∀ k (l' : List Pr), l'.length ≤ 1000 → ((nbr l' k).map V.int).length < sizeLine := fun k l' hl' => by
          have := nbr_len k l' []
          rw [List.length_map, sizeLine_eq]
          unfold nbr
          simp only [List.length_nil] at this
          omega
        have lt : (ts.take i).length ≤ 1000 := by rw [List.length_take]; omega
        refine ⟨t, _, rfl, SqT.of (s6 _ _ htt), rfl, _, _, rfl, _, _, rfl, rfl, ?_⟩
        refine ⟨_, rfl, _, rfl, D, _, _, _, rfl, rfl, SqL.of R6.at_, atI_nat g1, .inl ⟨rfl, _, SqL.of r1⟩, _, rfl, a1, _, _, rfl, rfl, r1, small _ _ lt, ?_⟩
        have R7 := R6.set ha1 (x2 : Int)
        have r2 := R7.row x2 a2 ha2
        have ne12 : x2 ≠ x1 := by omega
        simp only [if_neg ne12] at r2
        refine ⟨_, rfl, _, rfl, D, _, _, _, rfl, rfl, SqL.of R7.at_, atI_nat g2, .inl ⟨rfl, _, SqL.of r2⟩, _, rfl, a2, _, _, rfl, rfl, r2, small _ _ lt, ?_⟩
        have R8 := R7.set ha2 (x1 : Int)
        simp only [if_neg ne12] at R8
        have n1 := R6.rnew a1 (List.mem_of_getElem? ha1)
        have n2 := R6.rnew a2 (List.mem_of_getElem? ha2)
        refine ⟨_, _, rfl, Same.mut (Same.mut s6 n1) n2, ?_⟩
        have ef : (fun j : Nat => nbr (ts.take (i + 1)) (j : Int)) = (fun j : Nat => if j = x2 then nbr (ts.take i) (x2 : Int) ++ [(x1 : Int)] else if j = x1 then nbr (ts.take i) (x1 : Int) ++ [(x2 : Int)] else nbr (ts.take i) (j : Int)) := by
          funext j
          rw [tk, nbr_snoc]
          unfold nbs
          simp only
          by_cases c2 : j = x2
          · subst c2
            rw [if_neg (by omega), if_pos rfl, if_pos rfl]
          · rw [if_neg c2]
            by_cases c1 : j = x1
            · subst c1; rw [if_pos rfl, if_pos rfl]
            · rw [if_neg (by omega), if_neg (by omega), if_neg c1]
        rw [ef]
        exact R8
      · rintro σ H' ⟨v3, v4, rfl, s6, R6⟩
        rw [hp.len, List.take_length] at R6
        exact ⟨_, rfl, q D rs H' s6 R6⟩
end
end Od

namespace Od
open PySem PySem.Spec PyProof.Rows L2
/-! ### nets -/
theorem f1 : ¬ (("_ties" : Str) = "size") := by decide +kernel
theorem f2 : ¬ (("_near" : Str) = "size") := by decide +kernel
theorem f3 : ¬ (("_near" : Str) = "_ties") := by decide +kernel
theorem f1' : ¬ (("size" : Str) = "_ties") := by decide +kernel
theorem f2' : ¬ (("size" : Str) = "_near") := by decide +kernel
theorem f3' : ¬ (("_ties" : Str) = "_near") := by decide +kernel
abbrev nf1 (n : Int) : List (Str × V) := putF "size" (.int n) []
abbrev nf2 (n : Int) (lt : Addr) : List (Str × V) := putF "_ties" (.ref lt) (nf1 n)
def nf (n : Int) (lt ln : Addr) : List (Str × V) := putF "_near" (.ref ln) (nf2 n lt)
theorem nf1_len (n : Int) : (nf1 n).length < 1000 := by show 1 < 1000; decide
theorem nf2_len (n : Int) (lt : Addr) : (nf2 n lt).length < 1000 := by
  show (if ("size" : Str) = "_ties" then [(("size" : Str), V.ref lt)] else (("size" : Str), V.int n) :: putF "_ties" (V.ref lt) []).length < 1000
  rw [if_neg f1']; show 2 < 1000; decide
theorem nf2_ties (n : Int) (lt : Addr) : (nf2 n lt).lookup ("_ties" : Str) = some (.ref lt) := by rw [lookup_putF, if_pos rfl]
theorem nf_size (n : Int) (lt ln : Addr) : (nf n lt ln).lookup ("size" : Str) = some (.int n) := by
  unfold nf; rw [lookup_putF, if_neg f2', lookup_putF, if_neg f1', lookup_putF, if_pos rfl]
theorem nf_ties (n : Int) (lt ln : Addr) : (nf n lt ln).lookup ("_ties" : Str) = some (.ref lt) := by
  unfold nf; rw [lookup_putF, if_neg f3', lookup_putF, if_pos rfl]
theorem nf_near (n : Int) (lt ln : Addr) : (nf n lt ln).lookup ("_near" : Str) = some (.ref ln) := by
  unfold nf; rw [lookup_putF, if_pos rfl]
theorem nf_no (n : Int) (lt ln : Addr) {m : Str} (h1 : ¬ m = "size") (h2 : ¬ m = "_ties") (h3 : ¬ m = "_near") : (nf n lt ln).lookup m = none := by
  unfold nf; rw [lookup_putF, if_neg h3, lookup_putF, if_neg h2, lookup_putF, if_neg h1]; rfl
/-- a net stands at x -/
structure NetAt (C : Addr) (H : Hp) (x : Addr) (n : Nat) (ts : List Pr) : Prop where
  lo : 1 ≤ n
  hi : n ≤ 40
  tie : ∀ p ∈ ts, Tie n p
  up : ts.Pairwise plt
  at_ : ∃ (dx lt ln : Addr) (us : List V) (rs : List Addr), H x = some (.ins C dx (nf n lt ln)) ∧ H lt = some (.lst us) ∧ Prs H us ts ∧ H ln = some (.lst (rs.map V.ref)) ∧ rs.length = n ∧ ∀ (i : Nat) (a : Addr), rs[i]? = some a → H a = some (.lst ((nbr ts (i : Int)).map V.int))
theorem NetAt.ex {C : Addr} {H H' : Hp} {x : Addr} {n : Nat} {ts : List Pr} (N : NetAt C H x n ts) (e : Same H H') : NetAt C H' x n ts := by
  obtain ⟨dx, lt, ln, us, rs, h1, h2, h3, h4, h5, h6⟩ := N.at_
  exact ⟨N.lo, N.hi, N.tie, N.up, dx, lt, ln, us, rs, e _ _ h1, e _ _ h2, h3.ex e, e _ _ h4, h5, fun i a q => e _ _ (h6 i a q)⟩
theorem plt_irr (p : Pr) : ¬ plt p p := by unfold plt; omega
theorem plt_nodup {ts : List Pr} (h : ts.Pairwise plt) : ts.Nodup := by
  unfold List.Nodup
  exact h.imp fun {a b} h e => by subst e; exact plt_irr a h
theorem NetAt.few {C : Addr} {H : Hp} {x : Addr} {n : Nat} {ts : List Pr} (N : NetAt C H x n ts) : ts.length ≤ 800 :=
  few_ties (n := (n : Int)) (by have := N.hi; omega) N.tie (plt_nodup N.up)
/-- the new part -/
def newp (H0 H' : Hp) : Hp := fun b => if (H0 b).isSome then none else H' b
theorem newp_same {H0 H' : Hp} : Same (newp H0 H') H' := fun b o h => by
  unfold newp at h
  by_cases c : (H0 b).isSome
  · rw [if_pos c] at h; cases h
  · rw [if_neg c] at h; exact h
theorem newp_at {H0 H' : Hp} {b : Addr} {o : HO} (h0 : H0 b = none) (h : H' b = some o) : newp H0 H' b = some o := by
  unfold newp; rw [h0]; exact h
theorem newp_old {H0 H' : Hp} {b : Addr} {o : HO} (h : H0 b = some o) : newp H0 H' b = none := by
  unfold newp; rw [h]; rfl

theorem NewPrs.newp {H H' : Hp} : ∀ {us : List V} {ts : List Pr}, NewPrs H H' us ts → Prs (newp H H') us ts
  | _, _, .nil => .nil
  | _, _, .cons ⟨a, h1, h0, h2⟩ t => .cons ⟨a, h1, newp_at h0 h2⟩ (NewPrs.newp t)
theorem NewPrs.to {H H' H0 H2 : Hp} (e : Same H0 H) (k : ∀ a o, H a = none → H' a = some o → H2 a = some o) : ∀ {us : List V} {ts : List Pr}, NewPrs H H' us ts → NewPrs H0 H2 us ts
  | _, _, .nil => .nil
  | _, _, .cons ⟨a, h1, h0, h2⟩ t => .cons ⟨a, h1, e.free h0, k a _ h0 h2⟩ (NewPrs.to e k t)
theorem listOf_ex {H H' : Hp} {x : V} {t : Ty} (k : Kd H x t) (e : Same H H') : listOf H' x = listOf H x := by
  cases k with
  | lst h => rw [listOf_lst h, listOf_lst (e _ _ h)]
  | tup h => rw [listOf_no (.tup h) (by decide), listOf_no (.tup (e _ _ h)) (by decide)]
  | dct h => rw [listOf_no (.dct h) (by decide), listOf_no (.dct (e _ _ h)) (by decide)]
  | _ => rfl
theorem prOf_ex {H H' : Hp} {x : V} {t : Ty} (k : Kd H x t) (e : Same H H') : prOf H' x = prOf H x := by
  unfold prOf; rw [tupOf_ex k e]
theorem Kl.ex {H H' : Hp} {x : V} {t : Ty} (k : Kl H x t) (e : Same H H') : Kl H' x t := by
  refine ⟨k.kd.ex e, fun xs h y hy => ?_⟩
  rw [listOf_ex k.kd e] at h
  obtain ⟨u, q⟩ := k.its xs h y hy
  exact ⟨u, q.ex e⟩
theorem prs_ex {H H' : Hp} {xs : List V} (k : ∀ y ∈ xs, ∃ u, Kt H y u) (e : Same H H') : xs.map (prOf H') = xs.map (prOf H) :=
  List.map_congr_left fun y hy => by
    obtain ⟨u, q⟩ := k y hy
    exact prOf_ex q.kd e
theorem okTies_ex {H H' : Hp} {n : Int} {xs : List V} (k : ∀ y ∈ xs, ∃ u, Kt H y u) (e : Same H H') : OkTies H' n xs ↔ OkTies H n xs := by
  constructor
  · intro o
    refine ⟨fun y hy => ?_, by rw [← prs_ex k e]; exact o.one⟩
    obtain ⟨u, q⟩ := k y hy
    rw [← isTie_ex q e]; exact o.all y hy
  · intro o
    refine ⟨fun y hy => ?_, by rw [prs_ex k e]; exact o.one⟩
    obtain ⟨u, q⟩ := k y hy
    rw [isTie_ex q e]; exact o.all y hy
/-- a size and ties that make a net -/
def Good (H : Hp) (sz ties : V) (n : Nat) (ps : List Pr) : Prop := sz = .int n ∧ 1 ≤ n ∧ n ≤ 40 ∧ ∃ xs, listOf H ties = some xs ∧ OkTies H n xs ∧ ps = xs.map (prOf H)
def spInit (C B : Addr) : Sp := fun vs H Q E => ∃ (H0 : Hp) (x dx : Addr) (sz ties : V) (tz t : Ty), vs = [.ref x, sz, ties] ∧ Same H0 H ∧ H0 x = none ∧ H x = some (.ins C dx []) ∧ Kd H0 sz tz ∧ Kl H0 ties t ∧
  ((∃ n ps, Good H0 sz ties n ps ∧ ∀ ts H', ts.Perm ps → Same H0 H' → NetAt C (newp H0 H') x n ts → Q .non H') ∨ ((∀ n ps, ¬ Good H0 sz ties n ps) ∧ ∀ H', Same H0 H' → E (.ref B) none H'))
section
variable {P : Program} {w : World} {K : PySem.W.Frag} {mg : Str → Option Value} {c : Cs} {base : Heap}
theorem ok_init (T : Top K mg c) : Fd.IHas P w K mg base (L2N.CX P w) 6 c.Net ["self", "size", "ties"] (spInit c.Net c.BadNet) := by
  have G_is_number : Fd.Has P w K mg base CX0 1 "is_number" ["thing"] spNumber := ok_is_number T
  have G_rising_ties : Fd.Has P w K mg base (L2N.CX P w) 4 "rising_ties" ["size", "ties"] (spRising c.BadNet) := ok_rising_ties T
  have G_neighbours : Fd.Has P w K mg base CX0 1 "neighbours" ["size", "ties"] spNeighbours := ok_neighbours T
  obtain ⟨tk40, hk_MOST_PLACES⟩ := T.k_MOST_PLACES
  refine T.d_Net___init__.okN sc_Net___init__ (fun vs H Q E h => ?_) (fun f cdv A outer s H vs Q E hr h => ?_)
  · obtain ⟨H0, x, dx, sz, ties, tz, t, rfl, _⟩ := h; rfl
  · obtain ⟨H0, x, dx, sz, ties, tz, t, rfl, s0, x0, hx, kz, kt, hres⟩ := h
    have hr_is_number := hr.mono (show 1 ≤ 5 by decide)
    have hr_neighbours := hr.mono (show 1 ≤ 5 by decide)
    have hr_rising_ties := hr.mono (show 4 ≤ 5 by decide)
    refine ⟨_, (pss_cons (ps_if (PW.pt (pw_or (pt_not (pt_val (Fd.pe_f G_is_number hr_is_number (by rfl) (pa_cons (pv 1) pa_nil)))) (pw_or1 (pt_not (pt_chain op_le op_le pe_int (pv 1) (pe_glob (v := .int 40) (by rfl) hk_MOST_PLACES ⟨_, rfl⟩))))))
      (pss_one (L2N.ps_raise rfl (L2N.takes_of rfl rfl rfl rfl) (L2N.pmk_own PySem.F.excBase_ValueError T.e_BadNet.x T.e_BadNet.c T.e_BadNet.p (raises_own T.e_BadNet.b T.e_BadNet.t) (by rfl))))
      pss_nil)
      (pss_cons (ps_fld (pv 0) (pv 1) rfl)
      (pss_cons (ps_fld (pv 0) (Fd.pe_fN G_rising_ties hr_rising_ties (by rfl) (L2N.passes_call (L2N.takes_of rfl rfl rfl rfl) fun _ _ _ _ h => h) (pa_cons (pv 1) (pa_cons (pv 2) pa_nil))) rfl)
      (pss_one (ps_fld (pv 0) (Fd.pe_f G_neighbours hr_neighbours (by rfl) (pa_cons (pv 1) (pa_cons (pe_fld (pv 0) rfl) pa_nil))) rfl))))), ?_⟩
    have bad : ∀ H', Same H0 H' → (∀ n ps, ¬ Good H0 sz ties n ps) → E (.ref c.BadNet) none H' := fun H' s5 z => by
      rcases hres with ⟨n, ps, g, _⟩ | ⟨_, q⟩
      · exact absurd g (z n ps)
      · exact q H' s5
    refine ⟨sz, rfl, sz, tz, rfl, kz.ex s0, _, rfl, ?_⟩
    by_cases ci : ∃ i, sz = .int i
    · obtain ⟨i, rfl⟩ := ci
      refine iteF ⟨_, rfl, 1, i, rfl, rfl, _, rfl, ?_⟩
      by_cases c1 : (1 : Int) ≤ i
      · rw [decide_eq_true c1]
        refine iteT ⟨i, 40, rfl, rfl, _, rfl, ?_⟩
        by_cases c2 : i ≤ 40
        · rw [decide_eq_true c2]
          refine iteF ?_
          obtain ⟨n, rfl⟩ : ∃ n : Nat, i = (n : Int) := ⟨i.toNat, by omega⟩
          have s1 : Same H0 (upd H x (.ins c.Net dx (putF "size" (.int (n : Int)) []))) := Same.mut s0 x0
          refine ⟨_, rfl, _, rfl, x, c.Net, dx, [], rfl, hx, T.cl_Net, T.a_Net_size, (by show 0 < 1000; decide), ?_⟩
          refine ⟨_, rfl, _, rfl, (n : Int), ties, t, rfl, c2, kt.ex s1, ?_⟩
          have ek := fun (xs : List V) (e : listOf H0 ties = some xs) => okTies_ex (n := (n : Int)) (kt.its xs e) s1
          have el : listOf (upd H x (.ins c.Net dx (putF "size" (.int (n : Int)) []))) ties = listOf H0 ties := listOf_ex kt.kd s1
          by_cases cg : ∃ xs, listOf H0 ties = some xs ∧ OkTies H0 n xs
          · obtain ⟨xs, e, ok⟩ := cg
            refine .inl ⟨xs, by rw [el]; exact e, (ek xs e).mpr ok, fun ts lt us H2 pm up hl0 s2 hlt np => ?_⟩
            rw [prs_ex (kt.its xs e) s1] at pm
            have hxlt : x ≠ lt := fun z => by rw [← z, upd_same] at hl0; cases hl0
            have hx2 := s2 x _ upd_same
            have tie : ∀ p ∈ ts, Tie n p := fun p hp => by
              obtain ⟨y, hy, rfl⟩ := List.mem_map.mp (pm.mem_iff.mp hp)
              exact (isTie_iff (ok.all y hy)).2
            have few : ts.length ≤ 800 := few_ties (n := (n : Int)) c2 tie (plt_nodup up)
            refine ⟨_, rfl, x, c.Net, dx, _, rfl, hx2, T.cl_Net, T.a_Net__ties, nf1_len _, ?_⟩
            have s3 : Same (newp (upd H x (.ins c.Net dx (putF "size" (.int (n : Int)) []))) H2) (upd H2 x (.ins c.Net dx (nf2 n lt))) := Same.mut newp_same (newp_old upd_same)
            have hus := np.newp.ex s3
            refine ⟨_, rfl, ⟨_, rfl, x, c.Net, dx, _, _, rfl, upd_same, T.cl_Net, T.a_Net__ties, nf2_ties _ _, n, lt, us, ts, rfl, by omega, by rw [upd_ne hxlt.symm]; exact hlt, hus, tie, by omega, fun p rs H4 s4 R => ?_⟩⟩
            have hx4 := s4 x _ upd_same
            refine ⟨_, rfl, x, c.Net, dx, _, rfl, hx4, T.cl_Net, T.a_Net__near, nf2_len _ _, ?_⟩
            have s03 : Same H0 (upd H2 x (.ins c.Net dx (nf2 n lt))) := Same.mut (Same.trans s1 s2) x0
            have s05 : Same H0 (upd H4 x (.ins c.Net dx (nf n lt p))) := Same.mut (Same.trans s03 s4) x0
            have far : ∀ {b : Addr} {o : HO}, b ≠ x → H2 b = some o → (upd H4 x (.ins c.Net dx (nf n lt p))) b = some o := fun {b o} hb e => by
              rw [upd_ne hb]
              exact s4 b o (by rw [upd_ne hb]; exact e)
            rcases hres with ⟨n', ps, g, q⟩ | ⟨z, _⟩
            · obtain ⟨e1, _, _, xs', e2, _, rfl⟩ := g
              injection e1 with e1
              obtain rfl : n = n' := by omega
              rw [e] at e2; cases e2
              have px : p ≠ x := fun z => by
                have h1 := R.new
                rw [z, upd_same] at h1; cases h1
              refine q ts _ pm s05 ⟨by omega, by omega, tie, up, dx, lt, p, us, rs, newp_at x0 upd_same, newp_at (s1.free hl0) (far hxlt.symm hlt), ?_, newp_at (s03.free R.new) (by rw [upd_ne px]; exact R.at_), R.len, fun i a hi => ?_⟩
              · exact (np.to (H0 := H0) (H2 := upd H4 x (.ins c.Net dx (nf n lt p))) s1 fun a o h0 h2 => far (fun z => by rw [z, upd_same] at h0; cases h0) h2).newp
              · have hn := R.rnew a (List.mem_of_getElem? hi)
                have ax : a ≠ x := fun z => by rw [z, upd_same] at hn; cases hn
                exact newp_at (s03.free hn) (by rw [upd_ne ax]; exact R.row i a hi)
            · exact absurd ⟨rfl, by omega, by omega, xs, e, ok, rfl⟩ (z n _)
          · refine .inr ⟨fun xs e o => cg ?_, fun H' s2 => bad H' (Same.trans s1 s2) fun n' ps g => ?_⟩
            · rw [el] at e
              exact ⟨xs, e, (ek xs e).mp o⟩
            · obtain ⟨e, _, _, xs, e1, o, _⟩ := g
              injection e with e
              obtain rfl : n = n' := by omega
              exact cg ⟨xs, e1, o⟩
        · rw [decide_eq_false c2]
          refine iteT ?_
          exact bad H s0 fun n ps g => by
            obtain ⟨e, _, g2, _⟩ := g
            injection e with e; omega
      · rw [decide_eq_false c1]
        refine iteF ⟨_, rfl, ?_⟩
        refine iteT ?_
        exact bad H s0 fun n ps g => by
          obtain ⟨e, g1, _, _⟩ := g
          injection e with e; omega
    · have e : isInt sz = false := by
        cases sz with
        | int i => exact absurd ⟨i, rfl⟩ ci
        | _ => rfl
      rw [e]
      refine iteT ?_
      exact bad H s0 fun n ps g => ci ⟨n, g.1⟩
end
end Od

namespace Od
open PySem PySem.Spec PyProof.Rows L2
theorem len40 {n : Nat} (h : n ≤ 1000) : n ≤ sizeLine := Nat.le_of_lt (small1000 h)
def spTies (C : Addr) : Sp := fun vs H Q _ => ∃ (x : Addr) (n : Nat) (ts : List Pr), vs = [.ref x] ∧ NetAt C H x n ts ∧ ∀ p us, H p = none → Prs H us ts → Q (.ref p) (upd H p (.lst us))
def spBeside (C B : Addr) : Sp := fun vs H Q E => ∃ (x : Addr) (n : Nat) (ts : List Pr) (y : V) (t : Ty), vs = [.ref x, y] ∧ NetAt C H x n ts ∧ Kd H y t ∧
  (∀ i : Nat, y = .int i → i < n → ∀ p, H p = none → Q (.ref p) (upd H p (.lst ((nbr ts (i : Int)).map V.int)))) ∧ (isPl y n = false → E (.ref B) none H)
section
variable {P : Program} {w : World} {K : PySem.W.Frag} {mg : Str → Option Value} {c : Cs} {base : Heap}
theorem ok_ties (T : Top K mg c) : Fd.MHas P w K mg base CX0 1 c.Net "ties" ["self"] (spTies c.Net) := by
  refine T.d_Net_ties.ok sc_Net_ties (fun vs H Q E h => ?_) (fun f cdv A outer s H vs Q E hr h => ?_)
  · obtain ⟨x, n, ts, rfl, _⟩ := h; rfl
  · obtain ⟨x, n, ts, rfl, N, q⟩ := h
    obtain ⟨dx, lt, ln, us, rs, h1, h2, h3, h4, h5, h6⟩ := N.at_
    refine ⟨_, (pss_one (ps_ret (pe_callTy call_list_of (by rfl) T.n_list boot_list (pa_cons (pe_fld (pv 0) rfl) pa_nil)))), ?_⟩
    exact ⟨_, rfl, x, c.Net, dx, _, _, rfl, h1, T.cl_Net, T.a_Net__ties, nf_ties _ _ _, lt, us, rfl, .inl (SqL.of h2), fun p hp => q p us hp h3⟩
theorem ok_beside (T : Top K mg c) : Fd.MHas P w K mg base (L2N.CX P w) 3 c.Net "beside" ["self", "place"] (spBeside c.Net c.NoPlace) := by
  have G_is_place : Fd.Has P w K mg base CX0 2 "is_place" ["thing", "size"] spPlace := ok_is_place T
  refine T.d_Net_beside.okN sc_Net_beside (fun vs H Q E h => ?_) (fun f cdv A outer s H vs Q E hr h => ?_)
  · obtain ⟨x, n, ts, y, t, rfl, _⟩ := h; rfl
  · obtain ⟨x, n, ts, y, t, rfl, N, ky, q1, q2⟩ := h
    obtain ⟨dx, lt, ln, us, rs, h1, h2, h3, h4, h5, h6⟩ := N.at_
    have hr_is_place := hr
    refine ⟨_, (pss_cons (ps_if (pt_not (pt_val (Fd.pe_f G_is_place hr_is_place (by rfl) (pa_cons (pv 1) (pa_cons (pe_fld (pv 0) rfl) pa_nil)))))
      (pss_one (L2N.ps_raise rfl (L2N.takes_of rfl rfl rfl rfl) (L2N.pmk_own PySem.F.excBase_ValueError T.e_NoPlace.x T.e_NoPlace.c T.e_NoPlace.p (raises_own T.e_NoPlace.b T.e_NoPlace.t) (by rfl))))
      pss_nil)
      (pss_one (ps_ret (pe_callTy call_list_of (by rfl) T.n_list boot_list (pa_cons (pe_ix ix_list (pe_fld (pv 0) rfl) (pv 1) (fun _ _ => rfl)) pa_nil))))), ?_⟩
    refine ⟨_, rfl, _, rfl, x, c.Net, dx, _, _, rfl, h1, T.cl_Net, T.a_Net_size, nf_size _ _ _, y, t, (n : Int), rfl, ky, _, rfl, ?_⟩
    cases hp : isPl y n with
    | false => exact iteT (q2 hp)
    | true =>
      refine iteF ?_
      obtain ⟨i, rfl, a, b⟩ := isPl_int hp
      obtain ⟨j, rfl⟩ : ∃ j : Nat, i = (j : Int) := ⟨i.toNat, by omega⟩
      obtain ⟨r, hri⟩ : ∃ r, rs[j]? = some r := ⟨_, List.getElem?_eq_getElem (by rw [h5]; omega)⟩
      have g : (rs.map V.ref)[j]? = some (V.ref r) := by rw [List.getElem?_map, hri]; rfl
      exact ⟨_, rfl, x, c.Net, dx, _, _, rfl, h1, T.cl_Net, T.a_Net__near, nf_near _ _ _, _, rfl, ln, _, _, _, rfl, rfl, SqL.of h4, atI_nat g, r, _, rfl, .inl (SqL.of (h6 j r hri)), fun p hp' => q1 j rfl (by omega) p hp'⟩
end

/-! ### the law's own words -/
/-- a cell of the script -/
def cell (ns : List Int) (k : Int) : Int := ns.getD k.toNat 0
def spCell (K : PySem.W.Frag) : Sp := fun vs H Q _ => ∃ (a : Addr) (ns : List Int) (k : Int), vs = [.ref a, .int k] ∧ SqL K H a (ns.map V.int) ∧ 0 ≤ k ∧ Q (.int (cell ns k)) H
section
variable {P : Program} {w : World} {K : PySem.W.Frag} {mg : Str → Option Value} {c : Cs} {base : Heap}
theorem ok_cell (T : Top K mg c) : Fd.Has P w K mg base CX0 1 "_law_cell_at" ["_law_script", "_law_k"] (spCell K) := by
  refine T.d__law_cell_at.ok sc__law_cell_at (fun vs H Q E h => ?_) (fun f cdv A outer s H vs Q E hr h => ?_)
  · obtain ⟨a, ns, k, rfl, _⟩ := h; rfl
  · obtain ⟨a, ns, k, rfl, hs, h0, q⟩ := h
    refine ⟨_, (pss_cons (ps_if (pt_cmpR op_lt (pv 1) (pe_callB call_len_seq (by rfl) T.n_len boot_len (pa_cons (pv 0) pa_nil)) (nomark _))
      (pss_one (ps_ret (pe_ix ix_list (pv 0) (pv 1) (fun _ _ => rfl))))
      pss_nil)
      (pss_one (ps_ret pe_int))), ?_⟩
    refine ⟨_, rfl, _, rfl, a, _, rfl, .inl hs, k, _, rfl, rfl, _, rfl, ?_⟩
    rw [List.length_map]
    by_cases hk : k < (ns.length : Int)
    · rw [decide_eq_true hk]
      refine iteT ?_
      have hl : k.toNat < ns.length := by omega
      have g : (ns.map V.int)[k.toNat]? = some (V.int (cell ns k)) := by
        rw [List.getElem?_map, List.getElem?_eq_getElem hl]
        unfold cell
        rw [List.getD_eq_getElem?_getD, List.getElem?_eq_getElem hl]; rfl
      have e : ((k.toNat : Nat) : Int) = k := by omega
      have g2 := atI_nat g
      rw [e] at g2
      exact ⟨_, rfl, _, rfl, a, _, _, _, rfl, rfl, hs, g2, q⟩
    · rw [decide_eq_false hk]
      refine iteF ?_
      have e : cell ns k = 0 := by
        unfold cell
        rw [List.getD_eq_getElem?_getD, List.getElem?_eq_none (by omega)]; rfl
      rw [e] at q
      exact q
def tied (kind cl one other size : Int) : Bool :=
  if kind = 0 then decide (cl % 3 = 0)
  else if kind = 1 then decide (other = one + 1) || (decide (one = 0) && decide (other = size - 1)) || decide (cl % 11 = 0)
  else if kind = 2 then decide ((one + other) % 2 = 1) && decide (cl % 2 = 0)
  else if kind = 3 then (decide (one < 2) && decide (0 < cl % 3)) || (decide (1 < one) && decide ((one - 2) / 3 = (other - 2) / 3))
  else decide (0 < cl % 4)
def spTied : Sp := fun vs H Q _ => ∃ kind cl one other size : Int, vs = [.int kind, .int cl, .int one, .int other, .int size] ∧ Q (.bl (tied kind cl one other size)) H
theorem vint {a b : Int} : decide (V.int a = V.int b) = decide (a = b) := by
  by_cases h : a = b
  · subst h; rw [decide_eq_true rfl, decide_eq_true rfl]
  · rw [decide_eq_false h, decide_eq_false fun z => h (by injection z)]
theorem ok_tied (T : Top K mg c) : Fd.Has P w K mg base CX0 1 "_law_tied" ["_law_kind", "_law_cell", "_law_one", "_law_other", "_law_size"] spTied := by
  refine T.d__law_tied.ok sc__law_tied (fun vs H Q E h => ?_) (fun f cdv A outer s H vs Q E hr h => ?_)
  · obtain ⟨a, b, cc, d, e, rfl, _⟩ := h; rfl
  · obtain ⟨kind, cl, one, other, size, rfl, q⟩ := h
    refine ⟨_, (pss_cons (ps_if (pt_cmpR op_eq (pv 0) pe_int (nomark _))
      (pss_one (ps_ret (pe_cmpR op_eq (pe_op op_mod (pv 1) pe_int) pe_int (nomark _))))
      pss_nil)
      (pss_cons (ps_if (pt_cmpR op_eq (pv 0) pe_int (nomark _))
      (pss_one (ps_ret (pe_or (pe_cmpR op_eq (pv 3) (pe_op op_add (pv 2) pe_int) (nomark _)) (pe_or (pe_and (pe_cmpR op_eq (pv 2) pe_int (nomark _)) (pe_one (pe_cmpR op_eq (pv 3) (pe_op op_sub (pv 4) pe_int) (nomark _)))) (pe_one (pe_cmpR op_eq (pe_op op_mod (pv 1) pe_int) pe_int (nomark _)))))))
      pss_nil)
      (pss_cons (ps_if (pt_cmpR op_eq (pv 0) pe_int (nomark _))
      (pss_one (ps_ret (pe_and (pe_cmpR op_eq (pe_op op_mod (pe_op op_add (pv 2) (pv 3)) pe_int) pe_int (nomark _)) (pe_one (pe_cmpR op_eq (pe_op op_mod (pv 1) pe_int) pe_int (nomark _))))))
      pss_nil)
      (pss_cons (ps_if (pt_cmpR op_eq (pv 0) pe_int (nomark _))
      (pss_one (ps_ret (pe_or (pe_and (pe_cmpR op_lt (pv 2) pe_int (nomark _)) (pe_one (pe_cmpR op_gt (pe_op op_mod (pv 1) pe_int) pe_int (nomark _)))) (pe_one (pe_and (pe_cmpR op_gt (pv 2) pe_int (nomark _)) (pe_one (pe_cmpR op_eq (pe_op op_fdiv (pe_op op_sub (pv 2) pe_int) pe_int) (pe_op op_fdiv (pe_op op_sub (pv 3) pe_int) pe_int) (nomark _))))))))
      pss_nil)
      (pss_one (ps_ret (pe_cmpR op_gt (pe_op op_mod (pv 1) pe_int) pe_int (nomark _)))))))), ?_⟩
    unfold tied at q
    refine ⟨_, rfl, rfl, _, rfl, ?_⟩
    rw [vint]
    by_cases k0 : kind = 0
    · rw [decide_eq_true k0]
      rw [if_pos k0] at q
      refine iteT ⟨_, rfl, _, _, rfl, rfl, (by show (0 : Int) < 3; decide), rfl, ?_⟩
      rw [vint]; exact q
    rw [decide_eq_false k0]
    rw [if_neg k0] at q
    refine iteF ⟨_, rfl, rfl, _, rfl, ?_⟩
    rw [vint]
    by_cases k1 : kind = 1
    · rw [decide_eq_true k1]
      rw [if_pos k1] at q
      refine iteT ⟨_, rfl, _, rfl, _, _, rfl, rfl, rfl, _, rfl, ?_⟩
      rw [vint]
      by_cases a1 : other = one + 1
      · rw [decide_eq_true a1] at q ⊢
        exact iteT q
      rw [decide_eq_false a1] at q ⊢
      refine iteF ⟨_, rfl, rfl, _, rfl, ?_⟩
      rw [vint]
      by_cases a2 : one = 0
      · rw [decide_eq_true a2] at q ⊢
        refine iteT ⟨_, rfl, _, rfl, _, _, rfl, rfl, rfl, _, rfl, ?_⟩
        rw [vint]
        by_cases a3 : other = size - 1
        · rw [decide_eq_true a3] at q ⊢
          exact iteT q
        rw [decide_eq_false a3] at q ⊢
        refine iteF ⟨_, rfl, _, _, rfl, rfl, (by show (0 : Int) < 11; decide), rfl, ?_⟩
        rw [vint]; exact q
      rw [decide_eq_false a2] at q ⊢
      refine iteF ⟨_, rfl, ?_⟩
      refine iteF ⟨_, rfl, _, _, rfl, rfl, (by show (0 : Int) < 11; decide), rfl, ?_⟩
      rw [vint]; exact q
    rw [decide_eq_false k1]
    rw [if_neg k1] at q
    refine iteF ⟨_, rfl, rfl, _, rfl, ?_⟩
    rw [vint]
    by_cases k2 : kind = 2
    · rw [decide_eq_true k2]
      rw [if_pos k2] at q
      refine iteT ⟨_, rfl, _, rfl, _, _, rfl, rfl, _, _, rfl, rfl, (by show (0 : Int) < 2; decide), rfl, _, rfl, ?_⟩
      rw [vint]
      by_cases a1 : (one + other) % 2 = 1
      · rw [decide_eq_true a1] at q ⊢
        refine iteT ⟨_, rfl, _, _, rfl, rfl, (by show (0 : Int) < 2; decide), rfl, ?_⟩
        rw [vint]; exact q
      · rw [decide_eq_false a1] at q ⊢
        exact iteF q
    rw [decide_eq_false k2]
    rw [if_neg k2] at q
    refine iteF ⟨_, rfl, rfl, _, rfl, ?_⟩
    rw [vint]
    by_cases k3 : kind = 3
    · rw [decide_eq_true k3]
      rw [if_pos k3] at q
      have second : Q (.bl (decide (1 < one) && decide ((one - 2) / 3 = (other - 2) / 3))) H → tAndV (tOp (rI0 fun i j => .bl (decide (j < i))) (tVar 2) (tC (.int 1))) (tOp rEq (tOp (rI CDiv fun i j => .int (i / j)) (tOp (rI0 fun i j => .int (i - j)) (tVar 2) (tC (.int 2))) (tC (.int 3))) (tOp (rI CDiv fun i j => .int (i / j)) (tOp (rI0 fun i j => .int (i - j)) (tVar 3) (tC (.int 2))) (tC (.int 3)))) (start N__law_tied [.int kind, .int cl, .int one, .int other, .int size]) H Q := fun q => by
        refine ⟨_, rfl, _, _, rfl, rfl, _, rfl, ?_⟩
        by_cases a3 : (1 : Int) < one
        · rw [decide_eq_true a3] at q ⊢
          refine iteT ⟨_, rfl, _, _, rfl, rfl, _, _, rfl, rfl, ⟨by decide, by decide⟩, _, rfl, _, _, rfl, rfl, _, _, rfl, rfl, ⟨by decide, by decide⟩, rfl, ?_⟩
          rw [vint]; exact q
        · rw [decide_eq_false a3] at q ⊢
          exact iteF q
      refine iteT ⟨_, rfl, _, _, rfl, rfl, _, rfl, ?_⟩
      by_cases a1 : one < 2
      · rw [decide_eq_true a1] at q ⊢
        refine iteT ⟨_, rfl, _, _, rfl, rfl, (by show (0 : Int) < 3; decide), _, _, rfl, rfl, _, rfl, ?_⟩
        by_cases a2 : 0 < cl % 3
        · rw [decide_eq_true a2] at q ⊢
          exact iteT q
        · rw [decide_eq_false a2] at q ⊢
          exact iteF (second q)
      · rw [decide_eq_false a1] at q ⊢
        refine iteF ⟨_, rfl, ?_⟩
        exact iteF (second q)
    rw [decide_eq_false k3]
    rw [if_neg k3] at q
    refine iteF ⟨_, rfl, _, _, rfl, rfl, (by show (0 : Int) < 4; decide), _, _, rfl, rfl, q⟩
end
end Od

namespace Od
open PySem PySem.Spec PyProof.Rows L2
/-! ### the drawn net -/
def drawn (ns : List Int) (one other : Int) : Int := cell ns (3 + (other * (other - 1) / 2 + one) % 24) + (other * (other - 1) / 2 + one) / 24 * 7919
def tcond (ns : List Int) (size kind one other : Int) : Bool := tied kind ((drawn ns one other).fdiv (1 + one % 3)) one other size
def tin (ns : List Int) (size kind one : Int) : Nat → List Pr
  | 0 => []
  | k + 1 => tin ns size kind one k ++ (if tcond ns size kind one (one + 1 + (k : Int)) = true then [(one, one + 1 + (k : Int))] else [])
def tout (ns : List Int) (size kind : Int) : Nat → List Pr
  | 0 => []
  | i + 1 => tout ns size kind i ++ tin ns size kind (i : Int) (size - ((i : Int) + 1)).toNat
def tiesBy (ns : List Int) (size kind : Int) : List Pr := tout ns size kind size.toNat
theorem tin_mem {ns : List Int} {size kind one : Int} : ∀ {k : Nat} {p : Pr}, p ∈ tin ns size kind one k → p.1 = one ∧ one + 1 ≤ p.2 ∧ p.2 < one + 1 + (k : Int)
  | 0, p, h => by cases h
  | k + 1, p, h => by
    unfold tin at h
    rcases List.mem_append.mp h with z | z
    · have := tin_mem z; omega
    · by_cases c : tcond ns size kind one (one + 1 + (k : Int)) = true
      · rw [if_pos c, List.mem_singleton] at z
        subst z
        refine ⟨rfl, ?_, ?_⟩
        · show one + 1 ≤ one + 1 + (k : Int); omega
        · show one + 1 + (k : Int) < one + 1 + ((k + 1 : Nat) : Int); omega
      · rw [if_neg c] at z; cases z
theorem tin_up {ns : List Int} {size kind one : Int} : ∀ (k : Nat), (tin ns size kind one k).Pairwise plt
  | 0 => List.Pairwise.nil
  | k + 1 => by
    unfold tin
    refine List.pairwise_append.mpr ⟨tin_up k, ?_, fun a ha b hb => ?_⟩
    · by_cases c : tcond ns size kind one (one + 1 + (k : Int)) = true
      · rw [if_pos c]; exact List.pairwise_singleton _ _
      · rw [if_neg c]; exact List.Pairwise.nil
    · by_cases c : tcond ns size kind one (one + 1 + (k : Int)) = true
      · rw [if_pos c, List.mem_singleton] at hb
        subst hb
        exact .inr ⟨(tin_mem ha).1, (tin_mem ha).2.2⟩
      · rw [if_neg c] at hb; cases hb
theorem tout_mem {ns : List Int} {size kind : Int} : ∀ {i : Nat} {p : Pr}, p ∈ tout ns size kind i → 0 ≤ p.1 ∧ p.1 < (i : Int) ∧ p.1 < p.2 ∧ p.2 < size
  | 0, p, h => by cases h
  | i + 1, p, h => by
    unfold tout at h
    rcases List.mem_append.mp h with z | z
    · have := tout_mem z; omega
    · have := tin_mem z; omega
theorem tout_up {ns : List Int} {size kind : Int} : ∀ (i : Nat), (tout ns size kind i).Pairwise plt
  | 0 => List.Pairwise.nil
  | i + 1 => by
    unfold tout
    refine List.pairwise_append.mpr ⟨tout_up i, tin_up _, fun a ha b hb => ?_⟩
    have h1 := tout_mem ha
    have h2 := tin_mem hb
    unfold plt; omega
theorem tiesBy_tie {ns : List Int} {size kind : Int} {p : Pr} (h : p ∈ tiesBy ns size kind) : Tie size p := by
  have := tout_mem h
  exact ⟨this.1, this.2.2.1, this.2.2.2⟩
theorem tiesBy_up (ns : List Int) (size kind : Int) : (tiesBy ns size kind).Pairwise plt := tout_up _
theorem NewPrs.snoc {H H' : Hp} {us : List V} {ts : List Pr} {u : V} {p : Pr} (h : NewPrs H H' us ts) (hu : ∃ a, u = V.ref a ∧ H a = none ∧ H' a = some (.tup [.int p.1, .int p.2])) : NewPrs H H' (us ++ [u]) (ts ++ [p]) := by
  induction h with
  | nil => exact .cons hu .nil
  | cons r _ ih => exact .cons r ih
theorem NewPrs.tups {H H' H2 : Hp} (k : ∀ a xs, H' a = some (.tup xs) → H2 a = some (.tup xs)) : ∀ {us : List V} {ts : List Pr}, NewPrs H H' us ts → NewPrs H H2 us ts
  | _, _, .nil => .nil
  | _, _, .cons ⟨a, h1, h0, h2⟩ t => .cons ⟨a, h1, h0, k a _ h2⟩ (NewPrs.tups k t)
theorem Prs.tups {H H2 : Hp} (k : ∀ a xs, H a = some (.tup xs) → H2 a = some (.tup xs)) : ∀ {us : List V} {ts : List Pr}, Prs H us ts → Prs H2 us ts
  | _, _, .nil => .nil
  | _, _, .cons ⟨a, h1, h2⟩ t => .cons ⟨a, h1, k a _ h2⟩ (Prs.tups k t)
theorem NewPrs.len {H H' : Hp} {us : List V} {ts : List Pr} (h : NewPrs H H' us ts) : us.length = ts.length := Paired.length h
def spTiesBy (K : PySem.W.Frag) : Sp := fun vs H Q _ => ∃ (a : Addr) (ns : List Int) (size kind : Int), vs = [.ref a, .int size, .int kind] ∧ SqL K H a (ns.map V.int) ∧ 0 ≤ size ∧ size ≤ 40 ∧
  ∀ p us H', H p = none → Same H H' → H' p = some (.lst us) → NewPrs H H' us (tiesBy ns size kind) → Q (.ref p) H'
section
variable {P : Program} {w : World} {K : PySem.W.Frag} {mg : Str → Option Value} {c : Cs} {base : Heap}
theorem ok_ties_by (T : Top K mg c) : Fd.Has P w K mg base CX0 2 "_law_ties_by" ["_law_script", "_law_size", "_law_kind"] (spTiesBy K) := by
  have G__law_cell_at : Fd.Has P w K mg base CX0 1 "_law_cell_at" ["_law_script", "_law_k"] (spCell K) := ok_cell T
  have G__law_tied : Fd.Has P w K mg base CX0 1 "_law_tied" ["_law_kind", "_law_cell", "_law_one", "_law_other", "_law_size"] spTied := ok_tied T
  refine T.d__law_ties_by.ok sc__law_ties_by (fun vs H Q E h => ?_) (fun f cdv A outer s H vs Q E hr h => ?_)
  · obtain ⟨a, ns, size, kind, rfl, _⟩ := h; rfl
  · obtain ⟨a, ns, size, kind, rfl, hs, h0, h40, q⟩ := h
    have hr__law_cell_at := hr
    have hr__law_tied := hr
    refine ⟨_, (pss_cons (ps_set (i := 3) sc__law_ties_by.nd rfl (Or.inl rfl) (pe_lst pa_nil))
      (pss_cons (ps_for PassesOwn.never rfl (pi_range1 (by rfl) T.n_range (pa_cons (pv 1) pa_nil)) (pg_name (i := 4) sc__law_ties_by.nd rfl (Or.inl rfl))
      (pss_one (ps_for PassesOwn.never rfl (pi_range2 (by rfl) T.n_range (pa_cons (pe_op op_add (pv 4) pe_int) (pa_cons (pv 1) pa_nil))) (pg_name (i := 5) sc__law_ties_by.nd rfl (Or.inl rfl))
        (pss_cons (ps_set (i := 6) sc__law_ties_by.nd rfl (Or.inl rfl) (pe_op op_add (pe_op op_fdiv (pe_op op_mul (pv 5) (pe_op op_sub (pv 5) pe_int)) pe_int) (pv 4)))
          (pss_cons (ps_set (i := 7) sc__law_ties_by.nd rfl (Or.inl rfl) (pe_op op_add (Fd.pe_f G__law_cell_at hr__law_cell_at (by rfl) (pa_cons (pv 0) (pa_cons (pe_op op_add pe_int (pe_op op_mod (pv 6) pe_int)) pa_nil))) (pe_op op_mul (pe_op op_fdiv (pv 6) pe_int) pe_int)))
          (pss_one (ps_if (pt_val (Fd.pe_f G__law_tied hr__law_tied (by rfl) (pa_cons (pv 2) (pa_cons (pe_op op_fdivN (pv 7) (pe_op op_add pe_int (pe_op op_mod (pv 4) pe_int))) (pa_cons (pv 4) (pa_cons (pv 5) (pa_cons (pv 1) pa_nil)))))))
          (pss_one (ps_expr (pe_bm PySem.F.plainAttrs_list PySem.F.slot_list_append PySem.F.type_list_append mt_append (pv 3) (pa_cons (pe_tup (pa_cons (pv 4) (pa_cons (pv 5) pa_nil))) pa_nil))))
          pss_nil)))))))
      (pss_one (ps_ret (pv 3))))), ?_⟩
    refine ⟨Nat.zero_le _, fun p hp => ?_⟩
    refine ⟨_, rfl, size, rfl, by omega, by omega, for_range (lo := 0) (n := size.toNat) (fun i σ H' => ∃ v4 v5 v6 v7 us, σ = [some (.ref a), some (.int size), some (.int kind), some (.ref p), v4, v5, v6, v7] ∧ Same H H' ∧ H' p = some (.lst us) ∧ NewPrs H H' us (tout ns size kind i))
      ⟨none, none, none, none, [], rfl, Same.new hp, upd_same, .nil⟩ ?_ ?_⟩
    · rintro i σ H' hi ⟨v4, v5, v6, v7, us, rfl, s5, h5, np⟩
      rw [show (0 : Int) + (i : Int) = (i : Int) from Int.zero_add _]
      refine ⟨_, rfl, _, _, rfl, rfl, _, rfl, _, size, rfl, ⟨by omega, by omega, by omega, by omega⟩, for_range (lo := (i : Int) + 1) (n := (size - ((i : Int) + 1)).toNat) (fun k σ H' => ∃ v5 v6 v7 us, σ = [some (.ref a), some (.int size), some (.int kind), some (.ref p), some (.int (i : Int)), v5, v6, v7] ∧ Same H H' ∧ H' p = some (.lst us) ∧ NewPrs H H' us (tout ns size kind i ++ tin ns size kind (i : Int) k))
        ⟨v5, v6, v7, us, rfl, s5, h5, by rw [show tin ns size kind (i : Int) 0 = [] from rfl, List.append_nil]; exact np⟩ ?_ ?_⟩
      · rintro k σ H2 hk ⟨v5, v6, v7, us2, rfl, s6, h6, np6⟩
        generalize ho : (i : Int) + 1 + (k : Int) = o
        have ob : 0 ≤ o ∧ o < 40 := by omega
        have m0 : 0 ≤ (o * (o - 1) / 2 + (i : Int)) % 24 := Int.emod_nonneg _ (by decide)
        refine ⟨_, rfl, _, rfl, _, _, rfl, rfl, _, _, rfl, rfl, .inl ⟨by omega, by omega⟩, _, _, rfl, rfl, ⟨by decide, by decide⟩, _, rfl, _, _, rfl, rfl, ?_⟩
        have bd : -(2 ^ 64 : Int) < (o * (o - 1) / 2 + (i : Int)) / 24 ∧ (o * (o - 1) / 2 + (i : Int)) / 24 < 2 ^ 64 := by
          have h1 : 0 ≤ o * (o - 1) + 40 := by
            by_cases z : 0 < o
            · have := Int.mul_nonneg (show 0 ≤ o by omega) (show 0 ≤ o - 1 by omega); omega
            · have : o = 0 := by omega
              subst this; decide
          have h2 : o * (o - 1) ≤ 40 * 40 := by
            by_cases z : 0 < o
            · exact Int.mul_le_mul (by omega) (by omega) (by omega) (by decide)
            · have : o = 0 := by omega
              subst this; decide
          omega
        refine ⟨_, rfl, _, rfl, _, _, rfl, rfl, (by show (0 : Int) < 24; decide), _, _, rfl, rfl, a, ns, _, rfl, s6.seq hs, by omega, _, rfl, _, _, rfl, rfl, ⟨by decide, by decide⟩, _, _, rfl, rfl, .inl bd, _, _, rfl, rfl, ?_⟩
        have m3 : 0 ≤ (i : Int) % 3 ∧ (i : Int) % 3 < 3 := ⟨Int.emod_nonneg _ (by decide), Int.emod_lt_of_pos _ (by decide)⟩
        refine ⟨_, rfl, _, rfl, _, rfl, _, _, rfl, rfl, (by show (0 : Int) < 3; decide), _, _, rfl, rfl, _, _, rfl, rfl, ⟨by omega, by omega⟩, _, rfl, _, rfl, _, rfl, _, _, _, _, _, rfl, _, rfl, ?_⟩
        have et : tied kind ((cell ns (3 + (o * (o - 1) / 2 + (i : Int)) % 24) + (o * (o - 1) / 2 + (i : Int)) / 24 * 7919).fdiv (1 + (i : Int) % 3)) (i : Int) o size = tcond ns size kind (i : Int) o := rfl
        rw [et]
        have en : tin ns size kind (i : Int) (k + 1) = tin ns size kind (i : Int) k ++ (if tcond ns size kind (i : Int) o = true then [((i : Int), o)] else []) := by rw [← ho]; rfl
        cases hc : tcond ns size kind (i : Int) o with
        | false =>
          refine iteF ⟨_, _, _, us2, rfl, s6, h6, ?_⟩
          rw [en, hc, if_neg Bool.false_ne_true, List.append_nil]; exact np6
        | true =>
          refine iteT ⟨_, rfl, .inl ⟨rfl, _, SqL.of h6⟩, _, rfl, _, rfl, (by show 2 ≤ sizeLine; decide), fun r hr' => ?_⟩
          have npr : p ≠ r := ne_of_none h6 hr'
          have few : us2.length ≤ 800 := by
            rw [np6.len]
            refine few_ties h40 (fun x hx => ?_) (plt_nodup ?_)
            · rcases List.mem_append.mp hx with z | z
              · have := tout_mem z; exact ⟨this.1, this.2.2.1, this.2.2.2⟩
              · have := tin_mem z
                refine ⟨by omega, by omega, by omega⟩
            · refine List.pairwise_append.mpr ⟨tout_up _, tin_up _, fun x hx y hy => ?_⟩
              have h1 := tout_mem hx
              have h2 := tin_mem hy
              unfold plt; omega
          refine ⟨p, us2, _, rfl, rfl, by rw [upd_ne npr]; exact h6, by rw [sizeLine_eq]; omega, _, _, _, _, rfl, Same.mut (Same.trans s6 (Same.new hr')) hp, upd_same, ?_⟩
          rw [en, hc, if_pos rfl, ← List.append_assoc]
          refine NewPrs.snoc ?_ ⟨r, rfl, s6.free hr', by rw [upd_ne npr.symm]; exact upd_same⟩
          refine np6.tups fun x xs h2 => ?_
          rw [upd_ne (ne_of h2 h6 (fun z => nomatch z)), upd_ne (ne_of_none h2 hr')]; exact h2
      · rintro σ H2 ⟨v5, v6, v7, us2, rfl, s6, h6, np6⟩
        exact ⟨_, _, _, _, us2, rfl, s6, h6, np6⟩
    · rintro σ H' ⟨v4, v5, v6, v7, us, rfl, s5, h5, np⟩
      exact ⟨_, rfl, q p us H' hp s5 h5 np⟩
end
end Od

namespace Od
open PySem PySem.Spec PyProof.Rows L2
def great (ns : List Int) : Bool := decide (cell ns 0 / 11 % 9 = 4)
def netSize (ns : List Int) (b : Int) : Int := if great ns = true then 30 + cell ns 0 / 99 % 11 else if cell ns 0 / 11 % 9 = 6 then 12 + cell ns 0 / 99 % 11 else 1 + cell ns 0 % b
def netKind (ns : List Int) : Int := if great ns = true then 1 + 2 * (cell ns 1 % 5 % 2) else cell ns 1 % 5
def netTies (ns : List Int) (b : Int) : List Pr := tiesBy ns (netSize ns b) (netKind ns)
theorem netSize_bd (ns : List Int) {b : Int} (h1 : 0 < b) (h2 : b ≤ 12) : 1 ≤ netSize ns b ∧ netSize ns b ≤ 40 := by
  unfold netSize
  have a1 := Int.emod_nonneg (cell ns 0 / 99) (show (11 : Int) ≠ 0 by decide)
  have a2 := Int.emod_lt_of_pos (cell ns 0 / 99) (show (0 : Int) < 11 by decide)
  have a3 := Int.emod_nonneg (cell ns 0) (show b ≠ 0 by omega)
  have a4 := Int.emod_lt_of_pos (cell ns 0) h1
  by_cases c1 : great ns = true
  · rw [if_pos c1]; omega
  · rw [if_neg c1]
    by_cases c2 : cell ns 0 / 11 % 9 = 6
    · rw [if_pos c2]; omega
    · rw [if_neg c2]; omega
def spSizeBy (K : PySem.W.Frag) : Sp := fun vs H Q _ => ∃ (a : Addr) (ns : List Int) (b : Int), vs = [.ref a, .int b] ∧ SqL K H a (ns.map V.int) ∧ 0 < b ∧ Q (.int (1 + cell ns 0 % b)) H
def spKindBy (K : PySem.W.Frag) : Sp := fun vs H Q _ => ∃ (a : Addr) (ns : List Int), vs = [.ref a] ∧ SqL K H a (ns.map V.int) ∧ Q (.int (cell ns 1 % 5)) H
def spGreat (K : PySem.W.Frag) : Sp := fun vs H Q _ => ∃ (a : Addr) (ns : List Int), vs = [.ref a] ∧ SqL K H a (ns.map V.int) ∧ Q (.bl (great ns)) H
def spNetBy (K : PySem.W.Frag) : Sp := fun vs H Q _ => ∃ (a : Addr) (ns : List Int) (b : Int), vs = [.ref a, .int b] ∧ SqL K H a (ns.map V.int) ∧ 0 < b ∧ b ≤ 12 ∧
  ∀ t p us H', H p = none → Same H H' → H' p = some (.lst us) → NewPrs H H' us (netTies ns b) → H' t = some (.tup [.int (netSize ns b), .ref p]) → Q (.ref t) H'
def spMixed : Sp := fun vs H Q _ => ∃ (l : Addr) (us : List V) (cl : Int), vs = [.ref l, .int cl] ∧ H l = some (.lst us) ∧ us.length ≤ 1000 ∧ ∀ p ws H', H p = none → Same H H' → H' p = some (.lst ws) → ws.Perm us → Q (.ref p) H'
def spWhole : Sp := fun vs H Q _ => ∃ x t, vs = [x] ∧ Kd H x t ∧ Q (.bl (isInt x)) H
section
variable {P : Program} {w : World} {K : PySem.W.Frag} {mg : Str → Option Value} {c : Cs} {base : Heap}
theorem ok_size_by (T : Top K mg c) : Fd.Has P w K mg base CX0 2 "_law_size_by" ["_law_script", "_law_bound"] (spSizeBy K) := by
  have G__law_cell_at : Fd.Has P w K mg base CX0 1 "_law_cell_at" ["_law_script", "_law_k"] (spCell K) := ok_cell T
  refine T.d__law_size_by.ok sc__law_size_by (fun vs H Q E h => ?_) (fun f cdv A outer s H vs Q E hr h => ?_)
  · obtain ⟨a, ns, b, rfl, _⟩ := h; rfl
  · obtain ⟨a, ns, b, rfl, hs, hb, q⟩ := h
    have hr__law_cell_at := hr
    refine ⟨_, (pss_one (ps_ret (pe_op op_add pe_int (pe_op op_modN (Fd.pe_f G__law_cell_at hr__law_cell_at (by rfl) (pa_cons (pv 0) (pa_cons pe_int pa_nil))) (pv 1))))), ?_⟩
    refine ⟨_, rfl, a, ns, 0, rfl, hs, Int.le_refl 0, _, rfl, _, _, rfl, rfl, (show b ≠ 0 by omega), _, _, rfl, rfl, ?_⟩
    rw [Int.fmod_eq_emod_of_nonneg _ (by omega)]
    exact q
theorem ok_kind_by (T : Top K mg c) : Fd.Has P w K mg base CX0 2 "_law_kind_by" ["_law_script"] (spKindBy K) := by
  have G__law_cell_at : Fd.Has P w K mg base CX0 1 "_law_cell_at" ["_law_script", "_law_k"] (spCell K) := ok_cell T
  refine T.d__law_kind_by.ok sc__law_kind_by (fun vs H Q E h => ?_) (fun f cdv A outer s H vs Q E hr h => ?_)
  · obtain ⟨a, ns, rfl, _⟩ := h; rfl
  · obtain ⟨a, ns, rfl, hs, q⟩ := h
    have hr__law_cell_at := hr
    refine ⟨_, (pss_one (ps_ret (pe_op op_mod (Fd.pe_f G__law_cell_at hr__law_cell_at (by rfl) (pa_cons (pv 0) (pa_cons pe_int pa_nil))) pe_int))), ?_⟩
    exact ⟨_, rfl, a, ns, 1, rfl, hs, by decide, _, _, rfl, rfl, (by show (0 : Int) < 5; decide), q⟩
theorem ok_great (T : Top K mg c) : Fd.Has P w K mg base CX0 2 "_law_great" ["_law_script"] (spGreat K) := by
  have G__law_cell_at : Fd.Has P w K mg base CX0 1 "_law_cell_at" ["_law_script", "_law_k"] (spCell K) := ok_cell T
  refine T.d__law_great.ok sc__law_great (fun vs H Q E h => ?_) (fun f cdv A outer s H vs Q E hr h => ?_)
  · obtain ⟨a, ns, rfl, _⟩ := h; rfl
  · obtain ⟨a, ns, rfl, hs, q⟩ := h
    have hr__law_cell_at := hr
    refine ⟨_, (pss_one (ps_ret (pe_cmpR op_eq (pe_op op_mod (pe_op op_fdiv (Fd.pe_f G__law_cell_at hr__law_cell_at (by rfl) (pa_cons (pv 0) (pa_cons pe_int pa_nil))) pe_int) pe_int) pe_int (nomark _)))), ?_⟩
    refine ⟨_, rfl, a, ns, 0, rfl, hs, by decide, _, _, rfl, rfl, ⟨by decide, by decide⟩, _, _, rfl, rfl, (by show (0 : Int) < 9; decide), rfl, ?_⟩
    rw [vint]; exact q
theorem ok_net_by (T : Top K mg c) : Fd.Has P w K mg base CX0 3 "_law_net_by" ["_law_script", "_law_bound"] (spNetBy K) := by
  have G__law_cell_at : Fd.Has P w K mg base CX0 1 "_law_cell_at" ["_law_script", "_law_k"] (spCell K) := ok_cell T
  have G__law_size_by : Fd.Has P w K mg base CX0 2 "_law_size_by" ["_law_script", "_law_bound"] (spSizeBy K) := ok_size_by T
  have G__law_kind_by : Fd.Has P w K mg base CX0 2 "_law_kind_by" ["_law_script"] (spKindBy K) := ok_kind_by T
  have G__law_great : Fd.Has P w K mg base CX0 2 "_law_great" ["_law_script"] (spGreat K) := ok_great T
  have G__law_ties_by : Fd.Has P w K mg base CX0 2 "_law_ties_by" ["_law_script", "_law_size", "_law_kind"] (spTiesBy K) := ok_ties_by T
  refine T.d__law_net_by.ok sc__law_net_by (fun vs H Q E h => ?_) (fun f cdv A outer s H vs Q E hr h => ?_)
  · obtain ⟨a, ns, b, rfl, _⟩ := h; rfl
  · obtain ⟨a, ns, b, rfl, hs, hb, hb2, q⟩ := h
    have hr__law_size_by := hr
    have hr__law_kind_by := hr
    have hr__law_great := hr
    have hr__law_ties_by := hr
    have hr__law_cell_at := hr.mono (show 1 ≤ 2 by decide)
    refine ⟨_, (pss_cons (ps_set (i := 2) sc__law_net_by.nd rfl (Or.inl rfl) (Fd.pe_f G__law_size_by hr__law_size_by (by rfl) (pa_cons (pv 0) (pa_cons (pv 1) pa_nil))))
      (pss_cons (ps_set (i := 3) sc__law_net_by.nd rfl (Or.inl rfl) (Fd.pe_f G__law_kind_by hr__law_kind_by (by rfl) (pa_cons (pv 0) pa_nil)))
      (pss_cons (ps_if (pt_cmpR op_eq (pe_op op_mod (pe_op op_fdiv (Fd.pe_f G__law_cell_at hr__law_cell_at (by rfl) (pa_cons (pv 0) (pa_cons pe_int pa_nil))) pe_int) pe_int) pe_int (nomark _))
      (pss_one (ps_set (i := 2) sc__law_net_by.nd rfl (Or.inl rfl) (pe_op op_add pe_int (pe_op op_mod (pe_op op_fdiv (Fd.pe_f G__law_cell_at hr__law_cell_at (by rfl) (pa_cons (pv 0) (pa_cons pe_int pa_nil))) pe_int) pe_int))))
      pss_nil)
      (pss_cons (ps_if (pt_val (Fd.pe_f G__law_great hr__law_great (by rfl) (pa_cons (pv 0) pa_nil)))
      (pss_cons (ps_set (i := 2) sc__law_net_by.nd rfl (Or.inl rfl) (pe_op op_add pe_int (pe_op op_mod (pe_op op_fdiv (Fd.pe_f G__law_cell_at hr__law_cell_at (by rfl) (pa_cons (pv 0) (pa_cons pe_int pa_nil))) pe_int) pe_int)))
        (pss_one (ps_set (i := 3) sc__law_net_by.nd rfl (Or.inl rfl) (pe_op op_add pe_int (pe_op op_mul pe_int (pe_op op_mod (pv 3) pe_int))))))
      pss_nil)
      (pss_one (ps_ret (pe_tup (pa_cons (pv 2) (pa_cons (Fd.pe_f G__law_ties_by hr__law_ties_by (by rfl) (pa_cons (pv 0) (pa_cons (pv 2) (pa_cons (pv 3) pa_nil)))) pa_nil))))))))), ?_⟩
    refine ⟨_, rfl, _, rfl, a, ns, b, rfl, hs, hb, ?_⟩
    refine ⟨_, rfl, a, ns, rfl, hs, ?_⟩
    have bd := netSize_bd ns hb hb2
    -- the end, from any size and kind that are the mirror's
    have fin : ∀ sz kd : Int, sz = netSize ns b → kd = netKind ns → tTup (tCons (tVar 2) (tCons (tCall (spTiesBy K) [] E0 (tCons (tVar 0) (tCons (tVar 2) (tCons (tVar 3) tNil)))) tNil)) [some (.ref a), some (.int b), some (.int sz), some (.int kd)] H Q := fun sz kd e1 e2 => by
      subst e1 e2
      refine ⟨_, rfl, _, rfl, _, rfl, _, rfl, a, ns, _, _, rfl, hs, by omega, bd.2, fun p us H' hp s5 h5 np => ⟨(by show 2 ≤ sizeLine; decide), fun t ht => ?_⟩⟩
      have npt : p ≠ t := ne_of_none h5 ht
      refine q t p us _ hp (Same.trans s5 (Same.new ht)) (by rw [upd_ne npt]; exact h5) (np.tups fun x xs h2 => ?_) upd_same
      rw [upd_ne (ne_of_none h2 ht)]; exact h2
    refine ⟨_, rfl, a, ns, 0, rfl, hs, by decide, _, _, rfl, rfl, ⟨by decide, by decide⟩, _, _, rfl, rfl, (by show (0 : Int) < 9; decide), rfl, _, rfl, ?_⟩
    rw [vint]
    by_cases c6 : cell ns 0 / 11 % 9 = 6
    · rw [decide_eq_true c6]
      refine iteT ⟨_, rfl, a, ns, 0, rfl, hs, by decide, _, _, rfl, rfl, ⟨by decide, by decide⟩, _, _, rfl, rfl, (by show (0 : Int) < 11; decide), _, _, rfl, rfl, ?_⟩
      have cg : great ns = false := by unfold great; rw [c6]; rfl
      refine ⟨_, rfl, a, ns, rfl, hs, _, rfl, ?_⟩
      rw [cg]
      refine iteF ?_
      refine fin _ _ ?_ ?_
      · unfold netSize; rw [cg, if_neg Bool.false_ne_true, if_pos c6]
      · unfold netKind; rw [cg, if_neg Bool.false_ne_true]
    · rw [decide_eq_false c6]
      refine iteF ?_
      refine ⟨_, rfl, a, ns, rfl, hs, _, rfl, ?_⟩
      cases cg : great ns with
      | false =>
        refine iteF ?_
        refine fin _ _ ?_ ?_
        · unfold netSize; rw [cg, if_neg Bool.false_ne_true, if_neg c6]
        · unfold netKind; rw [cg, if_neg Bool.false_ne_true]
      | true =>
        refine iteT ⟨_, rfl, a, ns, 0, rfl, hs, by decide, _, _, rfl, rfl, ⟨by decide, by decide⟩, _, _, rfl, rfl, (by show (0 : Int) < 11; decide), _, _, rfl, rfl, ?_⟩
        refine ⟨_, rfl, _, _, rfl, rfl, (by show (0 : Int) < 2; decide), _, _, rfl, rfl, .inl ⟨by decide, by decide⟩, _, _, rfl, rfl, ?_⟩
        refine fin _ _ ?_ ?_
        · unfold netSize; rw [cg, if_pos rfl]
        · unfold netKind; rw [cg, if_pos rfl]
end
end Od

namespace Od
open PySem PySem.Spec PyProof.Rows L2
def spSole (K : PySem.W.Frag) (c : Cs) (a : Addr) (cls : Value) (d : Option Addr) : Sp := fun vs H Q _ => vs = [.ref a] ∧ (∃ D, cls = .ref D ∧ d = none ∧ Leaf K c D) ∧ Q (.bl true) H
section
variable {P : Program} {w : World} {K : PySem.W.Frag} {mg : Str → Option Value} {c : Cs} {base : Heap}
theorem cls_ref {C : Addr} : ∀ u, RelV (V.ref C) u → u = Value.ref C := fun _ h => h
theorem b2i (b : Bool) (n : Int) : (V.int (n + (if b then 1 else 0))) = V.int (n + (if b then 1 else 0)) := rfl
theorem ok_sole (T : Top K mg c) (a : Addr) (oe : Obj) (cls : Value) (d : Option Addr) (hz : L2N.Zn cls d oe) (hf : ∃ vs, oe.data = .fields vs) : Fh.HasP P w K mg base 1 "_law_sole" ["_law_error"] (spSole K c a cls d) (a, oe) := by
  by_cases hL : ∃ D, cls = .ref D ∧ d = none ∧ Leaf K c D
  · obtain ⟨D, rfl, rfl, L⟩ := hL
    have hz1 : oe.cls = .ref D := hz.1
    have hz2 : oe.dict = none := hz.2.1
    have hz3 := hf
    generalize hp : (a, oe) = p
    have e1 : p.1 = a := by rw [← hp]
    have e2 : p.2 = oe := by rw [← hp]
    rw [← e2] at hz1 hz2 hz3
    refine Fh.okP T.d__law_sole sc__law_sole (fun vs H Q E h => ?_) (fun f cdv A outer s H vs Q E hot hr h => ?_)
    · obtain ⟨rfl, _⟩ := h; rfl
    · obtain ⟨rfl, _, q⟩ := h
      obtain ⟨b0, b1, b2, b3, b4, b5, b6, k0, k1, k2, k3, k4, k5, k6, hc⟩ := L.l
      rw [← e1]
      refine ⟨_, (pss_cons (ps_set (i := 1) sc__law_sole.nd rfl (Or.inl rfl) pe_int)
      (pss_cons (ps_set (i := 1) sc__law_sole.nd rfl (Or.inl rfl) (pe_op op_add (pv 1) (pe_callTy call_int1 (by rfl) T.n_int boot_int (pa_cons (pe_callB (Fd.call_isP (show p ∈ [p] from List.mem_cons_self) L.x hz1 hz2 hz3) (by rfl) T.n_isinstance boot_isinstance (pa_cons (pv 0) (pa_cons (pe_glob (v := .ref c.BadNet) (by rfl) T.e_BadNet.c rfl) pa_nil))) pa_nil))))
      (pss_cons (ps_set (i := 1) sc__law_sole.nd rfl (Or.inl rfl) (pe_op op_add (pv 1) (pe_callTy call_int1 (by rfl) T.n_int boot_int (pa_cons (pe_callB (Fd.call_isP (show p ∈ [p] from List.mem_cons_self) L.x hz1 hz2 hz3) (by rfl) T.n_isinstance boot_isinstance (pa_cons (pv 0) (pa_cons (pe_glob (v := .ref c.NoPlace) (by rfl) T.e_NoPlace.c rfl) pa_nil))) pa_nil))))
      (pss_cons (ps_set (i := 1) sc__law_sole.nd rfl (Or.inl rfl) (pe_op op_add (pv 1) (pe_callTy call_int1 (by rfl) T.n_int boot_int (pa_cons (pe_callB (Fd.call_isP (show p ∈ [p] from List.mem_cons_self) L.x hz1 hz2 hz3) (by rfl) T.n_isinstance boot_isinstance (pa_cons (pv 0) (pa_cons (pe_glob (v := .ref c.BadPairs) (by rfl) T.e_BadPairs.c rfl) pa_nil))) pa_nil))))
      (pss_cons (ps_set (i := 1) sc__law_sole.nd rfl (Or.inl rfl) (pe_op op_add (pv 1) (pe_callTy call_int1 (by rfl) T.n_int boot_int (pa_cons (pe_callB (Fd.call_isP (show p ∈ [p] from List.mem_cons_self) L.x hz1 hz2 hz3) (by rfl) T.n_isinstance boot_isinstance (pa_cons (pv 0) (pa_cons (pe_glob (v := .ref c.BadWay) (by rfl) T.e_BadWay.c rfl) pa_nil))) pa_nil))))
      (pss_cons (ps_set (i := 1) sc__law_sole.nd rfl (Or.inl rfl) (pe_op op_add (pv 1) (pe_callTy call_int1 (by rfl) T.n_int boot_int (pa_cons (pe_callB (Fd.call_isP (show p ∈ [p] from List.mem_cons_self) L.x hz1 hz2 hz3) (by rfl) T.n_isinstance boot_isinstance (pa_cons (pv 0) (pa_cons (pe_glob (v := .ref c.TieThere) (by rfl) T.e_TieThere.c rfl) pa_nil))) pa_nil))))
      (pss_cons (ps_set (i := 1) sc__law_sole.nd rfl (Or.inl rfl) (pe_op op_add (pv 1) (pe_callTy call_int1 (by rfl) T.n_int boot_int (pa_cons (pe_callB (Fd.call_isP (show p ∈ [p] from List.mem_cons_self) L.x hz1 hz2 hz3) (by rfl) T.n_isinstance boot_isinstance (pa_cons (pv 0) (pa_cons (pe_glob (v := .ref c.NoTie) (by rfl) T.e_NoTie.c rfl) pa_nil))) pa_nil))))
      (pss_cons (ps_set (i := 1) sc__law_sole.nd rfl (Or.inl rfl) (pe_op op_add (pv 1) (pe_callTy call_int1 (by rfl) T.n_int boot_int (pa_cons (pe_callB (Fd.call_isP (show p ∈ [p] from List.mem_cons_self) L.x hz1 hz2 hz3) (by rfl) T.n_isinstance boot_isinstance (pa_cons (pv 0) (pa_cons (pe_glob (v := .ref c.OddRing) (by rfl) T.e_OddRing.c rfl) pa_nil))) pa_nil))))
      (pss_one (ps_ret (pe_and (pe_cmpR op_eq (pv 1) pe_int (nomark _)) (pe_and (pe_callB (Fd.call_isP (show p ∈ [p] from List.mem_cons_self) L.x hz1 hz2 hz3) (by rfl) T.n_isinstance boot_isinstance (pa_cons (pv 0) (pa_cons (pe_glob (v := .ref c.NetError) (by rfl) T.e_NetError.c rfl) pa_nil))) (pe_one (pe_callB (Fd.call_isP (show p ∈ [p] from List.mem_cons_self) L.x hz1 hz2 hz3) (by rfl) T.n_isinstance boot_isinstance (pa_cons (pv 0) (pa_cons (pe_bltn (v := .ty "ValueError") (by rfl) T.n_ValueError (by decide +kernel) rfl) pa_nil)))))))))))))))), ?_⟩
      refine ⟨_, rfl, _, rfl, _, _, _, rfl, cls_ref, k0, .inr ⟨_, rfl, _, _, rfl, rfl, ?_⟩⟩
      refine ⟨_, rfl, _, rfl, _, _, _, rfl, cls_ref, k1, .inr ⟨_, rfl, _, _, rfl, rfl, ?_⟩⟩
      refine ⟨_, rfl, _, rfl, _, _, _, rfl, cls_ref, k2, .inr ⟨_, rfl, _, _, rfl, rfl, ?_⟩⟩
      refine ⟨_, rfl, _, rfl, _, _, _, rfl, cls_ref, k3, .inr ⟨_, rfl, _, _, rfl, rfl, ?_⟩⟩
      refine ⟨_, rfl, _, rfl, _, _, _, rfl, cls_ref, k4, .inr ⟨_, rfl, _, _, rfl, rfl, ?_⟩⟩
      refine ⟨_, rfl, _, rfl, _, _, _, rfl, cls_ref, k5, .inr ⟨_, rfl, _, _, rfl, rfl, ?_⟩⟩
      refine ⟨_, rfl, _, rfl, _, _, _, rfl, cls_ref, k6, .inr ⟨_, rfl, _, _, rfl, rfl, ?_⟩⟩
      refine ⟨_, rfl, rfl, _, rfl, ?_⟩
      have e : decide (V.int (0 + (if b0 = true then 1 else 0) + (if b1 = true then 1 else 0) + (if b2 = true then 1 else 0) + (if b3 = true then 1 else 0) + (if b4 = true then 1 else 0) + (if b5 = true then 1 else 0) + (if b6 = true then 1 else 0)) = V.int 1) = true := by
        rw [vint]
        revert hc
        cases b0 <;> cases b1 <;> cases b2 <;> cases b3 <;> cases b4 <;> cases b5 <;> cases b6 <;> decide
      rw [e]
      refine iteT ⟨_, rfl, _, _, _, rfl, cls_ref, L.n, _, rfl, ?_⟩
      refine iteT ⟨_, rfl, _, _, _, rfl, (fun u h => h), L.v, q⟩
  · refine Fh.okP (N := N__law_sole) T.d__law_sole sc__law_sole (fun vs H Q E h => ?_) (fun f cdv A outer s H vs Q E hot hr h => ?_)
    · obtain ⟨rfl, _⟩ := h; rfl
    · exact absurd h.2.1 hL
end
end Od

namespace Od
open PySem PySem.Spec PyProof.Rows L2
def nbg (k : Int) (p : Pr) : Option Int := if p.1 = k then some p.2 else if p.2 = k then some p.1 else none
theorem nbr_eq (k : Int) : ∀ (ts : List Pr) (acc : List Int), ts.foldl (nbs k) acc = acc ++ ts.filterMap (nbg k)
  | [], acc => by simp
  | p :: ts, acc => by
    rw [List.foldl_cons, nbr_eq k ts]
    unfold nbs nbg
    by_cases a : p.1 = k
    · rw [if_pos a, List.filterMap_cons_some (b := p.2) (by rw [if_pos a]), List.append_assoc]; rfl
    · rw [if_neg a]
      by_cases b : p.2 = k
      · rw [if_pos b, List.filterMap_cons_some (b := p.1) (by rw [if_neg a, if_pos b]), List.append_assoc]; rfl
      · rw [if_neg b, List.filterMap_cons_none (by rw [if_neg a, if_neg b])]
theorem nbr_fm (ts : List Pr) (k : Int) : nbr ts k = ts.filterMap (nbg k) := by unfold nbr; rw [nbr_eq]; rfl
theorem nbr_up {n : Int} {ts : List Pr} (h : ∀ p ∈ ts, Tie n p) (up : ts.Pairwise plt) (k : Int) : (nbr ts k).Pairwise (· < ·) := by
  rw [nbr_fm, List.pairwise_filterMap]
  refine List.Pairwise.imp_of_mem (fun {p q} hp hq hpq x hx y hy => ?_) up
  obtain ⟨a1, a2, a3⟩ := h p hp
  obtain ⟨b1, b2, b3⟩ := h q hq
  unfold plt at hpq
  unfold nbg at hx hy
  by_cases c1 : p.1 = k
  · rw [if_pos c1] at hx; cases hx
    by_cases d1 : q.1 = k
    · rw [if_pos d1] at hy; cases hy; omega
    · rw [if_neg d1] at hy
      by_cases d2 : q.2 = k
      · rw [if_pos d2] at hy; cases hy; omega
      · rw [if_neg d2] at hy; cases hy
  · rw [if_neg c1] at hx
    by_cases c2 : p.2 = k
    · rw [if_pos c2] at hx; cases hx
      by_cases d1 : q.1 = k
      · rw [if_pos d1] at hy; cases hy; omega
      · rw [if_neg d1] at hy
        by_cases d2 : q.2 = k
        · rw [if_pos d2] at hy; cases hy; omega
        · rw [if_neg d2] at hy; cases hy
    · rw [if_neg c2] at hx; cases hx
theorem sorted_one {a b : List Int} (p : a.Perm b) (ha : a.Pairwise (· ≤ ·)) (hb : b.Pairwise (· < ·)) : a = b :=
  List.Perm.eq_of_pairwise (fun x y _ _ h1 h2 => Int.le_antisymm h1 h2) ha (hb.imp fun h => Int.le_of_lt h) p
theorem atMod {xs : List V} {k m : Int} (hm : (xs.length : Int) = m) (h0 : 0 < m) : ∃ v, atI xs (k % m) = some v ∧ v ∈ xs := by
  have a1 := Int.emod_nonneg k (show m ≠ 0 by omega)
  have a2 := Int.emod_lt_of_pos k h0
  have hl : (k % m).toNat < xs.length := by omega
  refine ⟨xs[(k % m).toNat], ?_, List.getElem_mem hl⟩
  have q := atI_nat (List.getElem?_eq_getElem hl)
  rwa [show (((k % m).toNat : Nat) : Int) = k % m by omega] at q
theorem tnx {D : Ends} {σ : St} {H : Hp} (h : D.nx σ H) : tNext D σ H := h
theorem tsq {t u : TS} {D : Ends} {σ : St} {H : Hp} (h : t { D with nx := u D } σ H) : tSeq t u D σ H := h
theorem if_no {t : TT} {u w : TS} {D : Ends} {σ : St} {H : Hp} {R : Hp → Prop} (h : ∀ Q' : Bool → Hp → Prop, (∀ H6, R H6 → Q' false H6) → t σ H Q') (k : ∀ H6, R H6 → w D σ H6) : tIfS t u w D σ H :=
  h _ fun H6 r => by rw [if_neg Bool.false_ne_true]; exact k H6 r

/-! ### parts, as mathematics -/
theorem nbr_mem {n : Int} {ts : List Pr} (h : ∀ p ∈ ts, Tie n p) {k q : Int} : q ∈ nbr ts k ↔ (k, q) ∈ ts ∨ (q, k) ∈ ts := by
  rw [nbr_fm, List.mem_filterMap]
  constructor
  · rintro ⟨⟨a, b⟩, hp, e⟩
    unfold nbg at e
    by_cases c1 : a = k
    · rw [if_pos c1] at e; cases e; subst c1; exact .inl hp
    · rw [if_neg c1] at e
      by_cases c2 : b = k
      · rw [if_pos c2] at e; cases e; subst c2; exact .inr hp
      · rw [if_neg c2] at e; cases e
  · rintro (hp | hp)
    · exact ⟨_, hp, by unfold nbg; rw [if_pos rfl]⟩
    · have t := h _ hp
      have : ¬ q = k := by have := t.2.1; simp only at this; omega
      exact ⟨_, hp, by unfold nbg; rw [if_neg this, if_pos rfl]⟩
theorem nbr_sym {n : Int} {ts : List Pr} (h : ∀ p ∈ ts, Tie n p) {k q : Int} (m : q ∈ nbr ts k) : k ∈ nbr ts q :=
  (nbr_mem h).mpr ((nbr_mem h).mp m).symm
theorem nbr_rng {n : Int} {ts : List Pr} (h : ∀ p ∈ ts, Tie n p) {k q : Int} (m : q ∈ nbr ts k) : 0 ≤ q ∧ q < n := by
  rcases (nbr_mem h).mp m with z | z
  · obtain ⟨a, b, c⟩ := h _ z; simp only at a b c; omega
  · obtain ⟨a, b, c⟩ := h _ z; simp only at a b c; omega
/-- what one comes to from a by open places -/
inductive Rch (nb : Int → List Int) (ok : Int → Prop) (a : Int) : Int → Prop
  | base : Rch nb ok a a
  | step {p q : Int} (h : Rch nb ok a p) (m : q ∈ nb p) (o : ok q) : Rch nb ok a q
theorem Rch.mono {nb : Int → List Int} {ok ok' : Int → Prop} {a p : Int} (h : Rch nb ok a p) (f : ∀ q, ok q → ok' q) : Rch nb ok' a p := by
  induction h with
  | base => exact .base
  | step _ m o ih => exact .step ih m (f _ o)
theorem Rch.ok_of {nb : Int → List Int} {ok : Int → Prop} {a p : Int} (h : Rch nb ok a p) (ha : ok a) : ok p := by
  cases h with
  | base => exact ha
  | step _ _ o => exact o
/-- the state of a search: sl seen, wl waiting, E what is still to be looked at -/
structure DI (nb : Int → List Int) (ok : Int → Prop) (n : Nat) (a : Int) (sl wl : List Int) (E : Int → Int → Prop) : Prop where
  nd : sl.Nodup
  rg : ∀ p ∈ sl, 0 ≤ p ∧ p < (n : Int)
  ini : a ∈ sl
  rch : ∀ p ∈ sl, Rch nb ok a p
  wt : ∀ p ∈ wl, p ∈ sl
  cl : ∀ p ∈ sl, p ∈ wl ∨ ∀ q ∈ nb p, ok q → q ∈ sl ∨ E p q
section
variable {nb : Int → List Int} {ok : Int → Prop} {n : Nat} {a : Int} {sl wl : List Int} {E : Int → Int → Prop}
theorem DI.start (h0 : 0 ≤ a) (h1 : a < (n : Int)) : DI nb ok n a [a] [a] (fun _ _ => False) :=
  ⟨List.pairwise_singleton _ _, fun p hp => by rw [List.mem_singleton.mp hp]; exact ⟨h0, h1⟩, List.mem_singleton.mpr rfl, fun p hp => by rw [List.mem_singleton.mp hp]; exact .base, fun p hp => hp, fun p hp => .inl hp⟩
theorem DI.len (D : DI nb ok n a sl wl E) : sl.length ≤ n := by
  have key := nat_nodup_len (sl.map Int.toNat) (List.range n) ?_ ?_
  · rw [List.length_map, List.length_range] at key; exact key
  · refine List.pairwise_map.mpr (List.Pairwise.imp_of_mem (fun {p q} hp hq ne e => ?_) D.nd)
    have h1 := D.rg p hp
    have h2 := D.rg q hq
    exact ne (by omega)
  · intro x hx
    obtain ⟨p, hp, rfl⟩ := List.mem_map.mp hx
    have h1 := D.rg p hp
    exact List.mem_range.mpr (by omega)
/-- the last one that waits is taken -/
theorem DI.pop (D : DI nb ok n a sl wl (fun _ _ => False)) {y : Int} (hy : wl.getLast? = some y) : DI nb ok n a sl wl.dropLast (fun p q => p = y ∧ q ∈ (nb y).drop 0) := by
  have e : wl = wl.dropLast ++ [y] := by
    cases wl with
    | nil => cases hy
    | cons b l => rw [List.getLast?_eq_some_getLast (by simp)] at hy; cases hy; exact (List.dropLast_concat_getLast (by simp)).symm
  refine ⟨D.nd, D.rg, D.ini, D.rch, fun p hp => D.wt p (List.dropLast_subset _ hp), fun p hp => ?_⟩
  rcases D.cl p hp with h | h
  · rw [e] at h
    rcases List.mem_append.mp h with z | z
    · exact .inl z
    · rw [List.mem_singleton] at z; subst z
      exact .inr fun q hq _ => .inr ⟨rfl, by rw [List.drop_zero]; exact hq⟩
  · exact .inr fun q hq o => (h q hq o).elim .inl False.elim
/-- a neighbour that is open and not seen -/
theorem DI.push {y q : Int} {i : Nat} (D : DI nb ok n a sl wl (fun p z => p = y ∧ z ∈ (nb y).drop i)) (hy : y ∈ sl) (hq : (nb y)[i]? = some q) (hr : 0 ≤ q ∧ q < (n : Int)) (ho : ok q) (hn : q ∉ sl) :
    DI nb ok n a (sl ++ [q]) (wl ++ [q]) (fun p z => p = y ∧ z ∈ (nb y).drop (i + 1)) := by
  have hm := List.mem_of_getElem? hq
  have ed : (nb y).drop i = q :: (nb y).drop (i + 1) := by
    obtain ⟨hi, e⟩ := List.getElem?_eq_some_iff.mp hq
    rw [List.drop_eq_getElem_cons hi, e]
  refine ⟨List.nodup_append.mpr ⟨D.nd, List.pairwise_singleton _ _, fun x hx z hz e => hn (by rw [← List.mem_singleton.mp hz, ← e]; exact hx)⟩, fun p hp => ?_, List.mem_append_left _ D.ini, fun p hp => ?_, fun p hp => ?_, fun p hp => ?_⟩
  · rcases List.mem_append.mp hp with z | z
    · exact D.rg p z
    · rw [List.mem_singleton.mp z]; exact hr
  · rcases List.mem_append.mp hp with z | z
    · exact D.rch p z
    · rw [List.mem_singleton.mp z]; exact .step (D.rch y hy) hm ho
  · rcases List.mem_append.mp hp with z | z
    · exact List.mem_append_left _ (D.wt p z)
    · exact List.mem_append_right _ z
  · rcases List.mem_append.mp hp with z | z
    · rcases D.cl p z with h | h
      · exact .inl (List.mem_append_left _ h)
      · refine .inr fun x hx o => ?_
        rcases h x hx o with h | ⟨e, h⟩
        · exact .inl (List.mem_append_left _ h)
        · rw [ed] at h
          rcases List.mem_cons.mp h with rfl | h
          · exact .inl (List.mem_append_right _ (List.mem_singleton.mpr rfl))
          · exact .inr ⟨e, h⟩
    · exact .inl (List.mem_append_right _ z)
/-- a neighbour that is closed, or seen -/
theorem DI.skip {y q : Int} {i : Nat} (D : DI nb ok n a sl wl (fun p z => p = y ∧ z ∈ (nb y).drop i)) (hq : (nb y)[i]? = some q) (h : ok q → q ∈ sl) :
    DI nb ok n a sl wl (fun p z => p = y ∧ z ∈ (nb y).drop (i + 1)) := by
  have ed : (nb y).drop i = q :: (nb y).drop (i + 1) := by
    obtain ⟨hi, e⟩ := List.getElem?_eq_some_iff.mp hq
    rw [List.drop_eq_getElem_cons hi, e]
  refine ⟨D.nd, D.rg, D.ini, D.rch, D.wt, fun p hp => (D.cl p hp).imp id fun k x hx o => ?_⟩
  rcases k x hx o with z | ⟨e, z⟩
  · exact .inl z
  · rw [ed] at z
    rcases List.mem_cons.mp z with rfl | z
    · exact .inl (h o)
    · exact .inr ⟨e, z⟩
theorem DI.done {y : Int} (D : DI nb ok n a sl wl (fun p z => p = y ∧ z ∈ (nb y).drop (nb y).length)) : DI nb ok n a sl wl (fun _ _ => False) :=
  ⟨D.nd, D.rg, D.ini, D.rch, D.wt, fun p hp => (D.cl p hp).imp id fun k x hx o => (k x hx o).imp id fun z => by
    have z := z.2
    rw [List.drop_length] at z; cases z⟩
theorem DI.fin (D : DI nb ok n a sl [] (fun _ _ => False)) (p : Int) : p ∈ sl ↔ Rch nb ok a p := by
  refine ⟨D.rch p, fun h => ?_⟩
  induction h with
  | base => exact D.ini
  | step _ m o ih =>
    rcases D.cl _ ih with z | z
    · cases z
    · exact (z _ m o).elim id False.elim
end

/-! ### the parts -/
open Classical in
noncomputable def partOf (nb : Int → List Int) (n : Nat) (ok : Int → Prop) (a : Int) : List Int := ((List.range n).map fun i : Nat => (i : Int)).filter fun p => decide (Rch nb ok a p)
open Classical in
/-- the parts by the first i places -/
noncomputable def partsTo (nb : Int → List Int) (n : Nat) (ok : Int → Prop) : Nat → List (List Int)
  | 0 => []
  | i + 1 => if ok (i : Int) ∧ ∀ L ∈ partsTo nb n ok i, (i : Int) ∉ L then partsTo nb n ok i ++ [partOf nb n ok (i : Int)] else partsTo nb n ok i
theorem up_range (n : Nat) : ((List.range n).map fun i : Nat => (i : Int)).Pairwise (· < ·) := by
  refine List.pairwise_map.mpr ?_
  exact List.pairwise_lt_range.imp fun h => by omega
theorem partOf_up (nb : Int → List Int) (n : Nat) (ok : Int → Prop) (a : Int) : (partOf nb n ok a).Pairwise (· < ·) := (up_range n).filter _
section
variable {nb : Int → List Int} {ok ok' : Int → Prop} {n : Nat} {a : Int}
theorem rch_rng (hb : ∀ {k q : Int}, q ∈ nb k → 0 ≤ q ∧ q < (n : Int)) (h0 : 0 ≤ a) (h1 : a < (n : Int)) {p : Int} (h : Rch nb ok a p) : 0 ≤ p ∧ p < (n : Int) := by
  cases h with
  | base => exact ⟨h0, h1⟩
  | step _ m _ => exact hb m
theorem partOf_mem (hb : ∀ {k q : Int}, q ∈ nb k → 0 ≤ q ∧ q < (n : Int)) (h0 : 0 ≤ a) (h1 : a < (n : Int)) {p : Int} : p ∈ partOf nb n ok a ↔ Rch nb ok a p := by
  unfold partOf
  rw [List.mem_filter]
  simp only [decide_eq_true_eq]
  refine ⟨fun h => h.2, fun h => ⟨?_, h⟩⟩
  have r := rch_rng hb h0 h1 h
  exact List.mem_map.mpr ⟨p.toNat, List.mem_range.mpr (by omega), by omega⟩
theorem up_one {A B : List Int} (ha : A.Pairwise (· < ·)) (hb : B.Pairwise (· < ·)) (h : ∀ p, p ∈ A ↔ p ∈ B) : A = B := by
  have na : A.Nodup := ha.imp fun h e => by omega
  have nb : B.Nodup := hb.imp fun h e => by omega
  exact sorted_one ((List.perm_ext_iff_of_nodup na nb).mpr h) (ha.imp fun h => Int.le_of_lt h) hb
theorem partOf_len (nb : Int → List Int) (n : Nat) (ok : Int → Prop) (a : Int) : (partOf nb n ok a).length ≤ n := by
  unfold partOf
  refine Nat.le_trans (List.length_filter_le _ _) ?_
  rw [List.length_map, List.length_range]; exact Nat.le_refl _
theorem partsTo_is {i : Nat} {L : List Int} (h : L ∈ partsTo nb n ok i) : ∃ b : Nat, b < i ∧ ok (b : Int) ∧ L = partOf nb n ok (b : Int) := by
  induction i with
  | zero => cases h
  | succ i ih =>
    unfold partsTo at h
    split at h
    · rename_i c
      rcases List.mem_append.mp h with z | z
      · obtain ⟨b, h1, h2⟩ := ih z; exact ⟨b, by omega, h2⟩
      · rw [List.mem_singleton] at z; exact ⟨i, by omega, c.1, z⟩
    · obtain ⟨b, h1, h2⟩ := ih h; exact ⟨b, by omega, h2⟩
theorem partsTo_len (i : Nat) : (partsTo nb n ok i).length ≤ i := by
  induction i with
  | zero => exact Nat.le_refl _
  | succ i ih =>
    unfold partsTo
    split
    · rw [List.length_append, List.length_singleton]; omega
    · omega
/-- open, and in no earlier part -/
def left (nb : Int → List Int) (n : Nat) (ok : Int → Prop) (i : Nat) (p : Int) : Prop := ok p ∧ ∀ L ∈ partsTo nb n ok i, p ∉ L
theorem rch_left (hb : ∀ {k q : Int}, q ∈ nb k → 0 ≤ q ∧ q < (n : Int)) (hs : ∀ {k q : Int}, q ∈ nb k → k ∈ nb q) {i : Nat} (hi : i ≤ n) (h0 : 0 ≤ a) (h1 : a < (n : Int)) (ha : left nb n ok i a) {p : Int} :
    Rch nb (left nb n ok i) a p ↔ Rch nb ok a p := by
  refine ⟨fun h => h.mono fun q o => o.1, fun h => ?_⟩
  induction h with
  | base => exact .base
  | step h m o ih =>
    rename_i p q
    refine .step ih m ⟨o, fun L hL hq => ?_⟩
    obtain ⟨b, hbi, ob, rfl⟩ := partsTo_is hL
    have b0 : (0 : Int) ≤ (b : Int) := by omega
    have b1 : (b : Int) < (n : Int) := by omega
    have r1 := (partOf_mem hb b0 b1).mp hq
    have lp := ih.ok_of ha
    exact lp.2 _ hL ((partOf_mem hb b0 b1).mpr (.step r1 (hs m) lp.1))
theorem partsTo_pos {i : Nat} {L : List Int} (hi : i ≤ n) (hb : ∀ {k q : Int}, q ∈ nb k → 0 ≤ q ∧ q < (n : Int)) (h : L ∈ partsTo nb n ok i) : 0 < L.length ∧ L.length ≤ n := by
  obtain ⟨b, hbi, ob, rfl⟩ := partsTo_is h
  refine ⟨List.length_pos_of_mem ((partOf_mem (a := (b : Int)) hb (by omega) (by omega)).mpr .base), partOf_len _ _ _ _⟩
end
end Od

namespace Od
open PySem PySem.Spec PyProof.Rows L2
/-! ### lists as data, compared -/
theorem eqvAll_map {α : Type} [DecidableEq α] (f : α → PyData) (h : ∀ x y, PyData.eqv (f x) (f y) = decide (x = y)) : ∀ a b : List α, PyData.eqvAll (a.map f) (b.map f) = decide (a = b)
  | [], [] => by simp [PyData.eqvAll]
  | [], _ :: _ => by simp [PyData.eqvAll]
  | _ :: _, [] => by simp [PyData.eqvAll]
  | x :: a, y :: b => by
    rw [List.map_cons, List.map_cons, PyData.eqvAll, h, eqvAll_map f h a b]
    by_cases c : x = y
    · by_cases d : a = b
      · subst c d; simp
      · rw [decide_eq_false d, decide_eq_false (fun z => d (List.cons.inj z).2), Bool.and_false]
    · rw [decide_eq_false c, decide_eq_false (fun z => c (List.cons.inj z).1), Bool.false_and]
theorem eqv_map {α : Type} [DecidableEq α] (f : α → PyData) (h : ∀ x y, PyData.eqv (f x) (f y) = decide (x = y)) (a b : List α) : PyData.eqv (.list (a.map f)) (.list (b.map f)) = decide (a = b) := by
  rw [PyData.eqv]; exact eqvAll_map f h a b
theorem shapedAll {α : Type} (f : α → PyData) (n : Nat) (h : ∀ x, (f x).canLay0 = true ∧ (f x).depth ≤ n) : ∀ a : List α, PyData.canLayAll0 (a.map f) = true ∧ PyData.depthAll (a.map f) ≤ n
  | [] => ⟨by simp [PyData.canLayAll0], by simp [PyData.depthAll]⟩
  | x :: a => by
    obtain ⟨h1, h2⟩ := shapedAll f n h a
    obtain ⟨h3, h4⟩ := h x
    rw [List.map_cons, PyData.canLayAll0, PyData.depthAll, h1, h3]
    exact ⟨rfl, Nat.max_le.mpr ⟨h4, h2⟩⟩
theorem shaped_map {α : Type} (f : α → PyData) (h : ∀ x, (f x).canLay0 = true ∧ (f x).depth ≤ 60) (a : List α) : SeqAt.shaped (.list (a.map f)) = true := by
  obtain ⟨h1, h2⟩ := shapedAll f 60 h a
  unfold SeqAt.shaped
  rw [PyData.canLay0, h1, PyData.depth, Bool.true_and, decide_eq_true_eq]
  omega
def dP (p : Pr) : PyData := .tuple [.int p.1, .int p.2]
def dPs (ts : List Pr) : PyData := .list (ts.map dP)
def dIs (ns : List Int) : PyData := .list (ns.map PyData.int)
theorem eqv_int (x y : Int) : PyData.eqv (.int x) (.int y) = decide (x = y) := by
  rw [PyData.eqv]; by_cases h : x = y
  · subst h; simp
  · rw [decide_eq_false h]; exact beq_eq_false_iff_ne.mpr h
theorem eqv_dP (p q : Pr) : PyData.eqv (dP p) (dP q) = decide (p = q) := by
  unfold dP
  rw [PyData.eqv, PyData.eqvAll, PyData.eqvAll, PyData.eqvAll, eqv_int, eqv_int, Bool.and_true]
  by_cases h : p = q
  · subst h; simp
  · rw [decide_eq_false h]
    by_cases c : p.1 = q.1
    · rw [decide_eq_false (fun z => h (Prod.ext c z)), Bool.and_false]
    · rw [decide_eq_false c, Bool.false_and]
theorem eqv_dPs (a b : List Pr) : PyData.eqv (dPs a) (dPs b) = decide (a = b) := eqv_map dP eqv_dP a b
theorem eqv_dIs (a b : List Int) : PyData.eqv (dIs a) (dIs b) = decide (a = b) := eqv_map PyData.int eqv_int a b
theorem shaped_dPs (a : List Pr) : SeqAt.shaped (dPs a) = true := shaped_map dP (fun x => ⟨by unfold dP; simp [PyData.canLay0, PyData.canLayAll0], by unfold dP; simp [PyData.depth, PyData.depthAll]⟩) a
theorem shaped_dIs (a : List Int) : SeqAt.shaped (dIs a) = true := shaped_map PyData.int (fun x => ⟨by simp [PyData.canLay0], by simp [PyData.depth]⟩) a
section
variable {K : PySem.W.Frag} {H : Hp}
theorem dpAll_ints : ∀ ns : List Int, DpAll K H (ns.map V.int) (ns.map PyData.int)
  | [] => .nil
  | n :: ns => .cons (.int n) (dpAll_ints ns)
theorem dp_ints {a : Addr} {ns : List Int} (h : SqL K H a (ns.map V.int)) : Dp K H (.ref a) (dIs ns) := .lst h (dpAll_ints ns)
theorem dpAll_prs : ∀ {us : List V} {ts : List Pr}, Prs H us ts → DpAll K H us (ts.map dP)
  | _, _, .nil => .nil
  | _, _, .cons ⟨a, h1, h2⟩ t => by
    subst h1
    exact .cons (.tup (SqT.of h2) (.cons (.int _) (.cons (.int _) .nil))) (dpAll_prs t)
theorem dp_prs {a : Addr} {us : List V} {ts : List Pr} (h : SqL K H a us) (p : Prs H us ts) : Dp K H (.ref a) (dPs ts) := .lst h (dpAll_prs p)
end
end Od

namespace Od
open PySem PySem.Spec PyProof.Rows L2
theorem pairSnoc {α β : Type} {F : α → β → Prop} {xs : List α} {ys : List β} {x : α} {y : β} (h : Paired F xs ys) (r : F x y) : Paired F (xs ++ [x]) (ys ++ [y]) := by
  induction h with
  | nil => exact .cons r .nil
  | cons q _ ih => exact .cons q ih
theorem nf_beside (n : Int) (lt ln : Addr) : (nf n lt ln).lookup ("beside" : Str) = none := nf_no _ _ _ (by decide +kernel) (by decide +kernel) (by decide +kernel)
theorem nf_m_ties (n : Int) (lt ln : Addr) : (nf n lt ln).lookup ("ties" : Str) = none := nf_no _ _ _ (by decide +kernel) (by decide +kernel) (by decide +kernel)
theorem setO_eq {w : World} {p : Addr} {S S' : Int → Bool} {n n' : Nat} (h1 : ∀ j, S j = S' j) (h2 : n = n') : SetO w p S n = SetO w p S' n' := by
  rw [show S = S' from funext h1, h2]
theorem inV_ints (p : Int) : ∀ ms : List Int, inV (.int p) (ms.map V.int) = decide (p ∈ ms)
  | [] => rfl
  | m :: ms => by
    have ih := inV_ints p ms
    unfold inV at ih ⊢
    rw [List.map_cons, List.any_cons, ih]
    have e : eqV (.int m) (.int p) = decide (m = p) := by
      by_cases h : m = p
      · subst h; simp [eqV]
      · simp [eqV, h]
    rw [e]
    by_cases h : m = p
    · subst h; rw [decide_eq_true rfl, decide_eq_true List.mem_cons_self]; rfl
    · rw [decide_eq_false h, Bool.false_or]
      by_cases h2 : p ∈ ms
      · rw [decide_eq_true h2, decide_eq_true (List.mem_cons_of_mem _ h2)]
      · rw [decide_eq_false h2, decide_eq_false]
        intro z
        rcases List.mem_cons.mp z with z | z
        · exact h z.symm
        · exact h2 z
theorem flat_ints (ms : List Int) : (ms.map V.int).all flatV = true := by
  rw [List.all_eq_true]
  intro v hv
  obtain ⟨m, _, rfl⟩ := List.mem_map.mp hv
  rfl
theorem kd_ints {H : Hp} {ms : List Int} : ∀ v ∈ ms.map V.int, ∃ t, Kd H v t := fun v hv => by
  obtain ⟨m, _, rfl⟩ := List.mem_map.mp hv
  exact ⟨_, .int m⟩
theorem all_rep (k : Nat) : (List.replicate k true).all id = true := by
  rw [List.all_eq_true]; intro b hb; exact (List.mem_replicate.mp hb).2
theorem plt_one {a b : List Pr} (p : a.Perm b) (ha : a.Pairwise plt) (hb : b.Pairwise plt) : a = b :=
  List.Perm.eq_of_pairwise (fun x y _ _ h1 h2 => by unfold plt at h1 h2; exact Prod.ext (by omega) (by omega)) ha hb p
theorem kd2 {H : Hp} {a b : V} (ha : ∃ u, Kd H a u) (hb : ∃ u, Kd H b u) : ∀ y ∈ [a, b], ∃ u, Kd H y u := fun y hy => by
  rcases List.mem_cons.mp hy with rfl | hy
  · exact ha
  · rw [List.mem_singleton] at hy; subst hy; exact hb
theorem kt_pr {H : Hp} {a : Addr} {p : Pr} (e : H a = some (.tup [.int p.1, .int p.2])) : Kt H (.ref a) .tuple := by
  refine ⟨.tup e, fun ys q => ?_⟩
  rw [tupOf_tup e] at q; cases q
  exact kd2 ⟨_, .int _⟩ ⟨_, .int _⟩
theorem Prs.kt {H : Hp} {us : List V} {ts : List Pr} (p : Prs H us ts) : ∀ y ∈ us, ∃ u, Kt H y u := fun y hy => by
  obtain ⟨i, hi⟩ := List.getElem?_of_mem hy
  obtain ⟨q, a, _, rfl, e⟩ := p.get hi
  exact ⟨_, kt_pr e⟩
theorem Prs.prOf {H : Hp} : ∀ {us : List V} {ts : List Pr}, Prs H us ts → us.map (prOf H) = ts
  | _, _, .nil => rfl
  | _, _, .cons ⟨a, h1, h2⟩ t => by
    subst h1
    rw [List.map_cons, Prs.prOf t]
    unfold Od.prOf
    rw [tupOf_tup h2]
theorem kl_lst {H : Hp} {a : Addr} {xs : List V} (e : H a = some (.lst xs)) (k : ∀ y ∈ xs, ∃ u, Kt H y u) : Kl H (.ref a) .list := by
  refine ⟨.lst e, fun ys q => ?_⟩
  rw [listOf_lst e] at q; cases q; exact k
/-- the places as keys -/
def mk (sl : List Int) : List (L2.Key × V) := sl.map fun p => (Sum.inl p, V.bl true)
theorem mk_val (q : Int) : ∀ sl : List Int, (valV (mk sl) (Sum.inl q : L2.Key)).isSome = decide (q ∈ sl)
  | [] => rfl
  | p :: sl => by
    show (valV ((Sum.inl p, V.bl true) :: mk sl) (Sum.inl q : L2.Key)).isSome = _
    by_cases e : p = q
    · subst e
      rw [valV_pos (by rfl), decide_eq_true List.mem_cons_self]; rfl
    · rw [valV_neg (by intro z; injection z with z; exact e z), mk_val q sl]
      by_cases m : q ∈ sl
      · rw [decide_eq_true m, decide_eq_true (List.mem_cons_of_mem _ m)]
      · rw [decide_eq_false m, decide_eq_false]
        intro z
        rcases List.mem_cons.mp z with z | z
        · exact e z.symm
        · exact m z
theorem mk_put {sl : List Int} {q : Int} (h : q ∉ sl) : putK (mk sl) (Sum.inl q : L2.Key) (V.bl true) = mk (sl ++ [q]) := by
  have hn : valV (mk sl) (Sum.inl q : L2.Key) = none := by
    have := mk_val q sl
    rw [decide_eq_false h] at this
    cases e : valV (mk sl) (Sum.inl q : L2.Key) with
    | none => rfl
    | some v => rw [e] at this; cases this
  rw [putK_new _ hn]
  unfold mk
  rw [List.map_append]; rfl
theorem mk_len (sl : List Int) : (mk sl).length = sl.length := by unfold mk; rw [List.length_map]
theorem mk_keys (sl : List Int) : (mk sl).map (·.1) = sl.map Sum.inl := by unfold mk; rw [List.map_map]; rfl
end Od

namespace Od
open PySem PySem.Spec PyProof.Rows L2
/-! ### pairings -/
def ends (ps : List Pr) : List Int := ps.flatMap fun p => [p.1, p.2]
theorem ends_snoc (ps : List Pr) (p : Pr) : ends (ps ++ [p]) = ends ps ++ [p.1, p.2] := by
  unfold ends; rw [List.flatMap_append]; rfl
theorem ends_len (ps : List Pr) : (ends ps).length = 2 * ps.length := by
  induction ps with
  | nil => rfl
  | cons p ps ih =>
    show (p.1 :: p.2 :: ends ps).length = _
    rw [List.length_cons, List.length_cons, List.length_cons, ih]; omega
theorem ends_perm {a b : List Pr} (h : a.Perm b) : (ends a).Perm (ends b) := h.flatMap_right _
theorem int_few {n : Nat} {l : List Int} (h : ∀ p ∈ l, 0 ≤ p ∧ p < (n : Int)) (nd : l.Nodup) : l.length ≤ n := by
  have key := nat_nodup_len (l.map Int.toNat) (List.range n) ?_ ?_
  · rw [List.length_map, List.length_range] at key; exact key
  · refine List.pairwise_map.mpr (List.Pairwise.imp_of_mem (fun {p q} hp hq ne e => ?_) nd)
    have h1 := h p hp
    have h2 := h q hq
    exact ne (by omega)
  · intro x hx
    obtain ⟨p, hp, rfl⟩ := List.mem_map.mp hx
    have h1 := h p hp
    exact List.mem_range.mpr (by omega)
theorem ends_rng {n : Int} {ps : List Pr} (h : ∀ p ∈ ps, Tie n p) : ∀ q ∈ ends ps, 0 ≤ q ∧ q < n := fun q hq => by
  obtain ⟨p, hp, hm⟩ := List.mem_flatMap.mp hq
  obtain ⟨a, b, c⟩ := h p hp
  simp only [List.mem_cons, List.not_mem_nil, or_false] at hm
  rcases hm with rfl | rfl
  · omega
  · omega
structure OkPairs (H : Hp) (n : Int) (ts : List Pr) (xs : List V) : Prop where
  all : ∀ y ∈ xs, isTie H y n = true
  tied : ∀ y ∈ xs, prOf H y ∈ ts
  one : (ends (xs.map (prOf H))).Nodup
theorem OkPairs.take {H : Hp} {n : Int} {ts : List Pr} {xs : List V} (o : OkPairs H n ts xs) (i : Nat) : OkPairs H n ts (xs.take i) := by
  refine ⟨fun y hy => o.all y (List.mem_of_mem_take hy), fun y hy => o.tied y (List.mem_of_mem_take hy), ?_⟩
  have e : xs = xs.take i ++ xs.drop i := (List.take_append_drop i xs).symm
  have h := o.one
  rw [e, List.map_append] at h
  unfold ends at h ⊢
  rw [List.flatMap_append] at h
  exact (List.nodup_append.mp h).1
theorem OkPairs.tie {H : Hp} {n : Int} {ts : List Pr} {xs : List V} (o : OkPairs H n ts xs) : ∀ p ∈ xs.map (prOf H), Tie n p := fun p hp => by
  obtain ⟨y, hy, rfl⟩ := List.mem_map.mp hp
  exact (isTie_iff (o.all y hy)).2
theorem OkPairs.few {H : Hp} {n : Nat} {ts : List Pr} {xs : List V} (o : OkPairs H n ts xs) : 2 * xs.length ≤ n := by
  have h := int_few (ends_rng o.tie) o.one
  rw [ends_len, List.length_map] at h; exact h
/-- one pair more -/
theorem OkPairs.snoc {H : Hp} {n : Int} {ts : List Pr} {xs : List V} {y : V} (o : OkPairs H n ts xs) (h1 : isTie H y n = true) (h2 : prOf H y ∈ ts) (h3 : (prOf H y).1 ∉ ends (xs.map (prOf H))) (h4 : (prOf H y).2 ∉ ends (xs.map (prOf H))) : OkPairs H n ts (xs ++ [y]) := by
  have t := (isTie_iff h1).2
  refine ⟨fun z hz => ?_, fun z hz => ?_, ?_⟩
  · rcases List.mem_append.mp hz with z' | z'
    · exact o.all z z'
    · rw [List.mem_singleton.mp z']; exact h1
  · rcases List.mem_append.mp hz with z' | z'
    · exact o.tied z z'
    · rw [List.mem_singleton.mp z']; exact h2
  · rw [List.map_append, List.map_cons, List.map_nil, ends_snoc]
    refine List.nodup_append.mpr ⟨o.one, ?_, fun a ha b hb e => ?_⟩
    · refine List.pairwise_cons.mpr ⟨fun b hb e => ?_, List.pairwise_singleton _ _⟩
      rw [List.mem_singleton] at hb
      obtain ⟨_, t2, _⟩ := t
      omega
    · subst e
      simp only [List.mem_cons, List.not_mem_nil, or_false] at hb
      rcases hb with rfl | rfl
      · exact h3 ha
      · exact h4 ha
theorem ltP_plt {H : Hp} {x y : V} (h : ltP (prOf H) y x = false) (ne : prOf H x ≠ prOf H y) : plt (prOf H x) (prOf H y) := by
  have h3 : ¬ plt (prOf H y) (prOf H x) := SrtO.lexB_no.mp h
  generalize prOf H x = u at h3 ne ⊢
  generalize prOf H y = v at h3 ne ⊢
  obtain ⟨u1, u2⟩ := u
  obtain ⟨v1, v2⟩ := v
  unfold plt at h3 ⊢
  simp only at h3 ⊢
  have h5 : ¬ (u1 = v1 ∧ u2 = v2) := fun z => ne (by rw [z.1, z.2])
  omega
/-- each pair of distinct ends stands once -/
theorem ends_nd : ∀ {ps : List Pr}, (ends ps).Nodup → ps.Nodup
  | [], _ => List.nodup_nil
  | p :: ps, h => by
    have h' : (p.1 :: p.2 :: ends ps).Nodup := h
    refine List.nodup_cons.mpr ⟨fun z => ?_, ends_nd (List.nodup_cons.mp (List.nodup_cons.mp h').2).2⟩
    refine (List.nodup_cons.mp h').1 (List.mem_cons_of_mem _ ?_)
    exact List.mem_flatMap.mpr ⟨p, z, List.mem_cons_self⟩
theorem NewPrs.item {H H2 : Hp} {us : List V} {ps : List Pr} (np : NewPrs H H2 us ps) {v : V} : ∀ {j : Nat}, us[j]? = some v → ∃ a, v = .ref a ∧ H a = none ∧ H2 a = some (.tup [.int (prOf H2 v).1, .int (prOf H2 v).2]) := by
  induction np with
  | nil => intro j hj; simp at hj
  | @cons u p us ps h _ ih =>
    intro j hj
    cases j with
    | zero =>
      simp at hj
      obtain ⟨a, rfl, h0, h2⟩ := h
      subst hj
      have e2 : prOf H2 (.ref a) = p := by unfold prOf; rw [tupOf_tup h2]
      exact ⟨a, rfl, h0, by rw [e2]; exact h2⟩
    | succ j => exact ih (j := j) (by simpa using hj)
def spChecked (C B : Addr) : Sp := fun vs H Q E => ∃ (x : Addr) (n : Nat) (ts : List Pr) (y : V) (t : Ty), vs = [.ref x, y] ∧ NetAt C H x n ts ∧ Kl H y t ∧
  ((∃ xs, listOf H y = some xs ∧ OkPairs H n ts xs ∧ ∀ (qs : List Pr) (p : Addr) (us : List V) (H' : Hp), qs.Perm (xs.map (prOf H)) → qs.Pairwise plt → H p = none → Same H H' → H' p = some (.lst us) → NewPrs H H' us qs → Q (.ref p) H') ∨
  ((∀ xs, listOf H y = some xs → ¬ OkPairs H n ts xs) ∧ ∀ H', Same H H' → E (.ref B) none H'))
section
variable {P : Program} {w : World} {K : PySem.W.Frag} {mg : Str → Option Value} {c : Cs} {base : Heap}
theorem ok_checked (T : Top K mg c) : Fd.Has P w K mg base (L2N.CX P w) 4 "checked" ["net", "pairs"] (spChecked c.Net c.BadPairs) := by
  have G_is_tie : Fd.Has P w K mg base CX0 3 "is_tie" ["thing", "size"] spTie := ok_is_tie T
  have G_Net_beside : Fd.MHas P w K mg base (L2N.CX P w) 3 c.Net "beside" ["self", "place"] (spBeside c.Net c.NoPlace) := ok_beside T
  refine T.d_checked.okN sc_checked (fun vs H Q E h => ?_) (fun f cdv A outer s H vs Q E hr h => ?_)
  · obtain ⟨x, n, ts, y, t, rfl, _⟩ := h; rfl
  · obtain ⟨x, n, ts, y, t, rfl, N, kl, hres⟩ := h
    have hr_is_tie := hr
    have hr_Net_beside := hr
    have n40 := N.hi
    refine ⟨_, (pss_cons (ps_if (pt_not (pt_val (pe_callB (r := rIsi K) call_isi (by rfl) T.n_isinstance boot_isinstance (pa_cons (pv 1) (pa_cons (pe_bltn (v := .ty "list") (by rfl) T.n_list boot_list rfl) pa_nil)))))
      (pss_one (L2N.ps_raise rfl (L2N.takes_of rfl rfl rfl rfl) (L2N.pmk_own PySem.F.excBase_ValueError T.e_BadPairs.x T.e_BadPairs.c T.e_BadPairs.p (raises_own T.e_BadPairs.b T.e_BadPairs.t) (by rfl))))
      pss_nil)
      (pss_cons (ps_set (i := 2) sc_checked.nd rfl (Or.inl rfl) (pe_callTy0 cr_set0 (by rfl) T.n_set boot_set))
      (pss_cons (ps_set (i := 3) sc_checked.nd rfl (Or.inl rfl) (pe_lst pa_nil))
      (pss_cons (ps_for (L2.passes_of rfl) rfl (pi_list (pv 1)) (pg_name (i := 4) sc_checked.nd rfl (Or.inl rfl))
      (pss_cons (ps_if (pt_not (pt_val (Fd.pe_f G_is_tie hr_is_tie (by rfl) (pa_cons (pv 4) (pa_cons (pe_fld (pv 0) rfl) pa_nil)))))
        (pss_one (L2N.ps_raise rfl (L2N.takes_of rfl rfl rfl rfl) (L2N.pmk_own PySem.F.excBase_ValueError T.e_BadPairs.x T.e_BadPairs.c T.e_BadPairs.p (raises_own T.e_BadPairs.b T.e_BadPairs.t) (by rfl))))
        pss_nil)
        (pss_cons (ps_asg (pv 4) (pg_tup rfl (pgs_cons (pg_name (i := 5) sc_checked.nd rfl (Or.inl rfl)) (pgs_cons (pg_name (i := 6) sc_checked.nd rfl (Or.inl rfl)) pgs_nil))))
        (pss_cons (ps_if (pt_cmpR (r := rIn K true) op_notIn_seq (pv 6) (Fd.pe_mN G_Net_beside (pv 0) T.cl_Net hr_Net_beside (L2N.passes_call (L2N.takes_of rfl rfl rfl rfl) fun _ _ _ _ h => h) (pa_cons (pv 5) pa_nil)) (by rfl))
        (pss_one (L2N.ps_raise rfl (L2N.takes_of rfl rfl rfl rfl) (L2N.pmk_own PySem.F.excBase_ValueError T.e_BadPairs.x T.e_BadPairs.c T.e_BadPairs.p (raises_own T.e_BadPairs.b T.e_BadPairs.t) (by rfl))))
        pss_nil)
        (pss_cons (ps_if (PW.pt (pw_or (pt_cmpR or_sin (pv 5) (pv 2) (by rfl)) (pw_or1 (pt_cmpR or_sin (pv 6) (pv 2) (by rfl)))))
        (pss_one (L2N.ps_raise rfl (L2N.takes_of rfl rfl rfl rfl) (L2N.pmk_own PySem.F.excBase_ValueError T.e_BadPairs.x T.e_BadPairs.c T.e_BadPairs.p (raises_own T.e_BadPairs.b T.e_BadPairs.t) (by rfl))))
        pss_nil)
        (pss_cons (ps_expr (pe_sadd (pv 2) (pa_cons (pv 5) pa_nil)))
        (pss_cons (ps_expr (pe_sadd (pv 2) (pa_cons (pv 6) pa_nil)))
        (pss_one (ps_expr (pe_bm PySem.F.plainAttrs_list PySem.F.slot_list_append PySem.F.type_list_append mt_append (pv 3) (pa_cons (pe_tup (pa_cons (pv 5) (pa_cons (pv 6) pa_nil))) pa_nil)))))))))))
      (pss_one (ps_ret (pe_callB cr_sortedPO (by rfl) T.n_sorted boot_sorted (pa_cons (pv 3) pa_nil)))))))), ?_⟩
    dsimp only [cxOf, Cx.nox]
    have bad : ∀ H', Same H H' → (∀ xs, listOf H y = some xs → ¬ OkPairs H n ts xs) → E (.ref c.BadPairs) none H' := fun H' e z => by
      rcases hres with ⟨xs, e1, o, _⟩ | ⟨_, q⟩
      · exact absurd o (z xs e1)
      · exact q H' e
    refine ⟨y, rfl, _, _, _, _, _, rfl, ClsV.ty _, kl.kd.tyx, kit_ty (kit_list t), _, rfl, ?_⟩
    by_cases ct : t = .list
    · subst ct
      rw [decide_eq_true rfl]
      refine iteF ?_
      obtain ⟨l, xs, rfl, hl⟩ := kl.kd.list_of
      have eL := listOf_lst hl
      refine ⟨rfl, fun S hS => ?_⟩
      have s0 : Same H (upd H S (SetO w S (fun _ => false) 0)) := Same.new hS
      have hS0 : upd H S (SetO w S (fun _ => false) 0) S = some (SetO w S (fun _ => false) 0) := upd_same
      generalize upd H S (SetO w S (fun _ => false) 0) = H0 at s0 hS0 ⊢
      refine ⟨Nat.zero_le _, fun F hF => ?_⟩
      have nSF : S ≠ F := ne_of_none hS0 hF
      have hFH : H F = none := s0.free hF
      refine ⟨_, rfl, l, rfl, ⟨xs, SqL.of ((Same.trans s0 (Same.new hF)) _ _ hl)⟩, for_list (K := K) (a := l) (xs := xs) (fun i σ H' => ∃ v4 v5 v6 us, σ = [some (.ref x), some (.ref l), some (.ref S), some (.ref F), v4, v5, v6] ∧ Same H H' ∧ H' S = some (SetO w S (fun j => decide (j ∈ ends ((xs.take i).map (prOf H)))) (ends ((xs.take i).map (prOf H))).length) ∧ H' F = some (.lst us) ∧ NewPrs H H' us ((xs.take i).map (prOf H)) ∧ OkPairs H n ts (xs.take i))
        ⟨none, none, none, [], rfl, Same.trans s0 (Same.new hF), by rw [upd_ne nSF, hS0]; exact congrArg some (setO_eq (fun j => by simp [ends]) rfl), upd_same, .nil, ⟨fun y z => (by simp at z), fun y z => (by simp at z), by simp [ends]⟩⟩ (fun i σ H' _ ⟨_, _, _, _, _, e, _⟩ => SqL.of (e _ _ hl)) ?_ ?_⟩
      · rintro i y σ H2 hi ⟨v4, v5, v6, us, rfl, s2, hS2, hF2, np, ok⟩
        have hy := List.mem_of_getElem? hi
        obtain ⟨u, kt⟩ := kl.its _ eL y hy
        have kt2 := kt.ex s2
        have tk : xs.take (i + 1) = xs.take i ++ [y] := by rw [List.take_succ, hi]; rfl
        have bads : (isTie H y n = true → prOf H y ∈ ts → (prOf H y).1 ∉ ends ((xs.take i).map (prOf H)) → (prOf H y).2 ∉ ends ((xs.take i).map (prOf H)) → False) → ∀ H', Same H H' → E (.ref c.BadPairs) none H' := fun z H' e => bad H' e fun xs' e1 o => by
          rw [eL] at e1; cases e1
          have o2 := o.take (i + 1)
          have o3 := o2.one
          rw [tk, List.map_append, List.map_cons, List.map_nil, ends_snoc] at o3
          have o4 := (List.nodup_append.mp o3).2.2
          exact z (o.all y hy) (o.tied y hy) (fun m => o4 _ m _ List.mem_cons_self rfl) (fun m => o4 _ m _ (List.mem_cons_of_mem _ List.mem_cons_self) rfl)
        obtain ⟨dx2, lt2, ln2, us2, rs2, a2, _⟩ := (N.ex s2).at_
        refine ⟨_, rfl, _, rfl, x, c.Net, dx2, _, _, rfl, a2, T.cl_Net, T.a_Net_size, nf_size _ _ _, y, u, (n : Int), rfl, kt2, _, rfl, ?_⟩
        rw [isTie_ex kt s2]
        cases hp : isTie H y n with
        | false => exact iteT (bads (fun z _ _ _ => by rw [hp] at z; cases z) H2 s2)
        | true =>
          refine iteF ?_
          obtain ⟨tu, tie⟩ := isTie_iff hp
          have cu : u = .tuple := by
            by_cases cu : u = .tuple
            · exact cu
            · rw [tupOf_no kt.kd cu] at tu; cases tu
          subst cu
          obtain ⟨a, zs, rfl, ea⟩ := kt.kd.tup_of
          rw [tupOf_tup ea] at tu
          cases tu
          have mp : (xs.take (i + 1)).map (prOf H) = (xs.take i).map (prOf H) ++ [prOf H (.ref a)] := by rw [tk, List.map_append]; rfl
          have oks := fun h2 h3 h4 => ok.snoc (y := .ref a) hp h2 h3 h4
          rw [← tk] at oks
          have lim := ok.few
          generalize hps : (xs.take i).map (prOf H) = ps at hS2 np mp oks bads ok
          have lps : ps.length = (xs.take i).length := by rw [← hps, List.length_map]
          generalize prOf H (.ref a) = pr at ea tie bads mp oks
          obtain ⟨p1, p2⟩ := pr
          simp only at ea tie bads mp oks
          obtain ⟨t1, t2, t3⟩ := tie
          simp only at t1 t2 t3
          have hb2 := s2 _ _ ea
          refine ⟨_, rfl, a, _, rfl, SqT.of hb2, rfl, _, _, rfl, _, _, rfl, rfl, ?_⟩
          obtain ⟨q1, rfl⟩ : ∃ q1 : Nat, p1 = (q1 : Int) := ⟨p1.toNat, by omega⟩
          refine ⟨_, rfl, _, rfl, x, dx2, _, rfl, a2, nf_beside _ _ _, _, rfl, x, n, ts, _, _, rfl, N.ex s2, .int _, fun i' e hi' D hD => ?_, fun z => ?_⟩
          rotate_left
          · have : isPl (.int (q1 : Int)) n = true := decide_eq_true ⟨by omega, by omega⟩
            rw [this] at z; cases z
          injection e with e
          obtain rfl : q1 = i' := by omega
          have s3 : Same H (upd H2 D (.lst ((nbr ts (q1 : Int)).map V.int))) := Same.trans s2 (Same.new hD)
          have nS : S ≠ D := ne_of_none hS2 hD
          have nF : F ≠ D := ne_of_none hF2 hD
          have hD3 : upd H2 D (.lst ((nbr ts (q1 : Int)).map V.int)) D = some (.lst ((nbr ts (q1 : Int)).map V.int)) := upd_same
          have hS3 : upd H2 D (.lst ((nbr ts (q1 : Int)).map V.int)) S = _ := (upd_ne nS).trans hS2
          have hF3 : upd H2 D (.lst ((nbr ts (q1 : Int)).map V.int)) F = _ := (upd_ne nF).trans hF2
          have np3 : NewPrs H (upd H2 D (.lst ((nbr ts (q1 : Int)).map V.int))) us ps := np.tups fun b ys e => by rw [upd_ne (ne_of_none e hD)]; exact e
          generalize upd H2 D (.lst ((nbr ts (q1 : Int)).map V.int)) = H3 at s3 hD3 hS3 hF3 np3 ⊢
          refine ⟨D, _, rfl, .inl (SqL.of hD3), rfl, flat_ints _, _, rfl, ?_⟩
          rw [inV_ints]
          have hmem : p2 ∈ nbr ts (q1 : Int) ↔ ((q1 : Int), p2) ∈ ts := by
            rw [nbr_mem N.tie]
            refine ⟨fun z => z.elim id fun z => ?_, .inl⟩
            have := (N.tie _ z).2.1
            simp only at this; omega
          by_cases cb : p2 ∈ nbr ts (q1 : Int)
          · rw [decide_eq_true cb]
            refine iteF ?_
            have inT := hmem.mp cb
            refine ⟨_, rfl, _, rfl, (q1 : Int), S, _, _, rfl, rfl, hS3, _, rfl, ?_⟩
            by_cases c1 : (q1 : Int) ∈ ends ps
            · rw [decide_eq_true c1]
              refine iteT ?_
              exact iteT (bads (fun _ _ z _ => z c1) H3 s3)
            · rw [decide_eq_false c1]
              refine iteF ⟨_, rfl, _, rfl, p2, S, _, _, rfl, rfl, hS3, _, rfl, ?_⟩
              by_cases c2 : p2 ∈ ends ps
              · rw [decide_eq_true c2]
                exact iteT (bads (fun _ _ _ z => z c2) H3 s3)
              · rw [decide_eq_false c2]
                refine iteF ?_
                have lz : ps.length ≤ 20 := by omega
                have el := ends_len ps
                refine ⟨_, rfl, ⟨S, _, _, rfl, hS3⟩, _, rfl, S, (q1 : Int), _, _, rfl, rfl, hS3, (by show (ends ps).length + 1 < scanBound; unfold scanBound; omega), ?_⟩
                rw [if_neg (show ¬ decide ((q1 : Int) ∈ ends ps) = true from fun z => c1 (of_decide_eq_true z))]
                have ne21 : ¬ p2 = (q1 : Int) := by omega
                refine ⟨_, rfl, ⟨S, _, _, rfl, upd_same⟩, _, rfl, S, p2, _, _, rfl, rfl, upd_same, (by show (ends ps).length + 1 + 1 < scanBound; unfold scanBound; omega), ?_⟩
                rw [if_neg (show ¬ (decide (p2 ∈ ends ps) || decide (p2 = (q1 : Int))) = true by rw [decide_eq_false c2, decide_eq_false ne21]; exact Bool.false_ne_true)]
                have hS4 : upd (upd H3 S (SetO w S (fun j => decide (j ∈ ends ps) || decide (j = (q1 : Int))) ((ends ps).length + 1))) S (SetO w S (fun j => (decide (j ∈ ends ps) || decide (j = (q1 : Int))) || decide (j = p2)) ((ends ps).length + 1 + 1)) S = some (SetO w S (fun j => decide (j ∈ ends (ps ++ [((q1 : Int), p2)]))) (ends (ps ++ [((q1 : Int), p2)])).length) := by
                  rw [upd_same]
                  refine congrArg some (setO_eq (fun j => ?_) ?_)
                  · rw [ends_snoc]
                    simp only [List.mem_append, List.mem_cons, List.not_mem_nil, or_false]
                    by_cases d1 : j ∈ ends ps
                    · simp [d1]
                    · simp [d1]
                  · rw [ends_snoc, List.length_append]; rfl
                have s4 : Same H (upd (upd H3 S (SetO w S (fun j => decide (j ∈ ends ps) || decide (j = (q1 : Int))) ((ends ps).length + 1))) S (SetO w S (fun j => (decide (j ∈ ends ps) || decide (j = (q1 : Int))) || decide (j = p2)) ((ends ps).length + 1 + 1))) := Same.mut (Same.mut s3 hS) hS
                have hF4 : upd (upd H3 S (SetO w S (fun j => decide (j ∈ ends ps) || decide (j = (q1 : Int))) ((ends ps).length + 1))) S (SetO w S (fun j => (decide (j ∈ ends ps) || decide (j = (q1 : Int))) || decide (j = p2)) ((ends ps).length + 1 + 1)) F = some (.lst us) := by rw [upd_ne nSF.symm, upd_ne nSF.symm]; exact hF3
                have np4 : NewPrs H (upd (upd H3 S (SetO w S (fun j => decide (j ∈ ends ps) || decide (j = (q1 : Int))) ((ends ps).length + 1))) S (SetO w S (fun j => (decide (j ∈ ends ps) || decide (j = (q1 : Int))) || decide (j = p2)) ((ends ps).length + 1 + 1))) us ps := np3.tups fun b ys e => by
                  have nb : b ≠ S := fun z => by rw [z, hS3] at e; cases e
                  rw [upd_ne nb, upd_ne nb]; exact e
                generalize upd (upd H3 S (SetO w S (fun j => decide (j ∈ ends ps) || decide (j = (q1 : Int))) ((ends ps).length + 1))) S (SetO w S (fun j => (decide (j ∈ ends ps) || decide (j = (q1 : Int))) || decide (j = p2)) ((ends ps).length + 1 + 1)) = H4 at s4 hS4 hF4 np4 ⊢
                refine ⟨_, rfl, .inl ⟨rfl, _, SqL.of hF4⟩, _, rfl, _, rfl, (by show 2 ≤ sizeLine; decide), fun r hr' => ?_⟩
                have nFr : F ≠ r := ne_of_none hF4 hr'
                have nSr : S ≠ r := ne_of_none hS4 hr'
                have lus := np4.len
                refine ⟨F, us, _, rfl, rfl, by rw [upd_ne nFr]; exact hF4, by rw [sizeLine_eq]; omega, ?_⟩
                refine ⟨_, _, _, us ++ [.ref r], rfl, Same.mut (Same.trans s4 (Same.new hr')) hFH, by rw [upd_ne nSF, upd_ne nSr, mp]; exact hS4, upd_same, ?_, oks inT c1 c2⟩
                rw [mp]
                refine NewPrs.snoc (np4.tups fun b ys e => ?_) ⟨r, rfl, s4.free hr', by rw [upd_ne nFr.symm]; exact upd_same⟩
                rw [upd_ne (ne_of e hF4 (fun z => nomatch z)), upd_ne (ne_of_none e hr')]; exact e
          · rw [decide_eq_false cb]
            exact iteT (bads (fun _ z _ _ => cb (hmem.mpr z)) H3 s3)
      · rintro σ H2 ⟨v4, v5, v6, us, rfl, s2, hS2, hF2, np, ok⟩
        rw [List.take_length] at np ok hS2
        rcases hres with ⟨xs', e, _, q⟩ | ⟨z, _⟩
        · rw [eL] at e; cases e
          have few := ok.few
          have prs := np.prs
          refine ⟨_, rfl, F, us, prOf H2, rfl, SqL.of hF2, fun v hv => ?_, fun ys r sd sb hr' => ?_⟩
          · obtain ⟨j, hj⟩ := List.getElem?_of_mem hv
            obtain ⟨pq, b, _, rfl, e⟩ := prs.get hj
            have e2 : prOf H2 (.ref b) = pq := by unfold prOf; rw [tupOf_tup e]
            exact ⟨b, rfl, by rw [e2]; exact e⟩
          · have pm : (ys.map (prOf H2)).Perm (xs.map (prOf H)) := by
              have h1 := sb.perm.map (prOf H2)
              have h2 : us.map (prOf H2) = xs.map (prOf H) := prs.prOf
              rw [h2] at h1; exact h1
            have nd : (ys.map (prOf H2)).Nodup := pm.nodup_iff.mpr (ends_nd ok.one)
            refine q (ys.map (prOf H2)) r ys _ pm ?_ (s2.free hr') (Same.trans s2 (Same.new hr')) upd_same ?_
            · refine List.pairwise_map.mpr ?_
              exact (sd.and (List.pairwise_map.mp nd)).imp fun {a b} h => ltP_plt h.1 h.2
            · have key : ∀ M : List V, (∀ v ∈ M, v ∈ us) → NewPrs H (upd H2 r (.lst ys)) M (M.map (prOf H2)) := by
                intro M
                induction M with
                | nil => intro _; exact .nil
                | cons v M ih =>
                  intro hM
                  obtain ⟨j, hj⟩ := List.getElem?_of_mem (hM v List.mem_cons_self)
                  refine .cons ?_ (ih fun y hy => hM y (List.mem_cons_of_mem _ hy))
                  obtain ⟨a, e1, e2, e3⟩ := np.item hj
                  exact ⟨a, e1, e2, by rw [upd_ne (ne_of_none e3 hr')]; exact e3⟩
              exact key ys fun v hv => sb.perm.mem_iff.mp hv
        · exact absurd ok (z xs eL)
    · rw [decide_eq_false ct]
      refine iteT ?_
      exact bad H (Same.refl H) fun xs e => by rw [listOf_no kl.kd ct] at e; cases e
end
end Od

namespace Od
open PySem PySem.Spec PyProof.Rows L2
def mst (i : Int) (acc : V) (p : Pr) : V := if p.1 = i then .int p.2 else if p.2 = i then .int p.1 else acc
/-- the one that i is paired with, None where it is alone -/
def mateOf (ps : List Pr) (i : Int) : V := ps.foldl (mst i) .non
theorem mateOf_snoc (ps : List Pr) (p : Pr) (i : Int) : mateOf (ps ++ [p]) i = mst i (mateOf ps i) p := by
  unfold mateOf; rw [List.foldl_append]; rfl
theorem mst_non {i : Int} {acc : V} {p : Pr} : mst i acc p = .non ↔ acc = .non ∧ p.1 ≠ i ∧ p.2 ≠ i := by
  unfold mst
  by_cases a : p.1 = i
  · rw [if_pos a]; exact ⟨(fun z => by cases z), fun z => absurd a z.2.1⟩
  · rw [if_neg a]
    by_cases b : p.2 = i
    · rw [if_pos b]; exact ⟨(fun z => by cases z), fun z => absurd b z.2.2⟩
    · rw [if_neg b]; exact ⟨fun z => ⟨z, a, b⟩, fun z => z.1⟩
theorem mate_fold (i : Int) : ∀ (ps : List Pr) (acc : V), ps.foldl (mst i) acc = .non ↔ acc = .non ∧ i ∉ ends ps
  | [], acc => ⟨fun z => ⟨z, List.not_mem_nil⟩, fun z => z.1⟩
  | p :: ps, acc => by
    rw [List.foldl_cons, mate_fold i ps, mst_non]
    show _ ↔ acc = .non ∧ i ∉ p.1 :: p.2 :: ends ps
    simp only [List.mem_cons, not_or]
    constructor
    · rintro ⟨⟨a, b, c⟩, d⟩; exact ⟨a, fun e => b e.symm, fun e => c e.symm, d⟩
    · rintro ⟨a, b, c, d⟩; exact ⟨⟨a, fun e => b e.symm, fun e => c e.symm⟩, d⟩
theorem mate_non {ps : List Pr} {i : Int} : mateOf ps i = .non ↔ i ∉ ends ps := by
  unfold mateOf; rw [mate_fold]; exact ⟨fun z => z.2, fun z => ⟨rfl, z⟩⟩
theorem mate_kind (ps : List Pr) (i : Int) : mateOf ps i = .non ∨ ∃ k, mateOf ps i = .int k := by
  unfold mateOf
  have key : ∀ (ps : List Pr) (acc : V), (acc = .non ∨ ∃ k, acc = .int k) → (ps.foldl (mst i) acc = .non ∨ ∃ k, ps.foldl (mst i) acc = .int k) := fun ps => by
    induction ps with
    | nil => exact fun _ h => h
    | cons p ps ih =>
      intro acc h
      refine ih _ ?_
      unfold mst
      by_cases a : p.1 = i
      · rw [if_pos a]; exact .inr ⟨_, rfl⟩
      · rw [if_neg a]
        by_cases b : p.2 = i
        · rw [if_pos b]; exact .inr ⟨_, rfl⟩
        · rw [if_neg b]; exact h
  exact key ps .non (.inl rfl)
def mrow (n : Nat) (ps : List Pr) : List V := (List.range n).map fun i : Nat => mateOf ps (i : Int)
theorem mrow_len (n : Nat) (ps : List Pr) : (mrow n ps).length = n := by unfold mrow; rw [List.length_map, List.length_range]
theorem mrow_at {n : Nat} {ps : List Pr} {i : Nat} (h : i < n) : (mrow n ps)[i]? = some (mateOf ps (i : Int)) := by
  unfold mrow; rw [List.getElem?_map, List.getElem?_range h]; rfl
theorem mrow_snoc {n : Nat} {ps : List Pr} {a b : Nat} (ha : a < n) (hb : b < n) (hab : a ≠ b) : ((mrow n ps).set a (.int (b : Int))).set b (.int (a : Int)) = mrow n (ps ++ [((a : Int), (b : Int))]) := by
  refine List.ext_getElem? fun i => ?_
  by_cases hi : i < n
  · rw [mrow_at hi, mateOf_snoc]
    unfold mst
    by_cases c1 : i = b
    · subst c1
      rw [List.getElem?_set_self (by rw [List.length_set, mrow_len]; exact hi), if_neg (by simp only; omega), if_pos rfl]
    · rw [List.getElem?_set_ne (fun z => c1 z.symm)]
      by_cases c2 : i = a
      · subst c2
        rw [List.getElem?_set_self (by rw [mrow_len]; exact hi), if_pos rfl]
      · rw [List.getElem?_set_ne (fun z => c2 z.symm), mrow_at hi, if_neg (by simp only; omega), if_neg (by simp only; omega)]
  · rw [List.getElem?_eq_none (by rw [List.length_set, List.length_set, mrow_len]; omega), List.getElem?_eq_none (by rw [mrow_len]; omega)]
theorem OkPairs.ex {H H' : Hp} {n : Int} {ts : List Pr} {xs : List V} (k : ∀ y ∈ xs, ∃ u, Kt H y u) (e : Same H H') : OkPairs H' n ts xs ↔ OkPairs H n ts xs := by
  have ep := prs_ex k e
  have ei : ∀ y ∈ xs, isTie H' y n = isTie H y n := fun y hy => by
    obtain ⟨u, q⟩ := k y hy
    exact isTie_ex q e
  have ef : ∀ y ∈ xs, prOf H' y = prOf H y := fun y hy => by
    obtain ⟨u, q⟩ := k y hy
    exact prOf_ex q.kd e
  constructor
  · intro o
    exact ⟨fun y hy => by rw [← ei y hy]; exact o.all y hy, fun y hy => by rw [← ef y hy]; exact o.tied y hy, by rw [← ep]; exact o.one⟩
  · intro o
    exact ⟨fun y hy => by rw [ei y hy]; exact o.all y hy, fun y hy => by rw [ef y hy]; exact o.tied y hy, by rw [ep]; exact o.one⟩
theorem no_later {H H1 : Hp} {n : Nat} {ts : List Pr} {y : V} {t : Ty} (kl : Kl H y t) (s1 : Same H H1) (z : ∀ xs, listOf H y = some xs → ¬ OkPairs H n ts xs) : ∀ xs, listOf H1 y = some xs → ¬ OkPairs H1 n ts xs := fun xs e o => by
  rw [listOf_ex kl.kd s1] at e
  exact z xs e ((OkPairs.ex (kl.its xs e) s1).mp o)
theorem ixn {n j : Nat} (h : j < n) : ixN n (j : Int) = some j := by
  unfold ixN; rw [if_pos (by omega), if_pos (by omega), Int.toNat_natCast]
def spMates (C B : Addr) : Sp := fun vs H Q E => ∃ (x : Addr) (n : Nat) (ts : List Pr) (y : V) (t : Ty), vs = [.ref x, y] ∧ NetAt C H x n ts ∧ Kl H y t ∧
  ((∃ xs, listOf H y = some xs ∧ OkPairs H n ts xs ∧ ∀ (qs : List Pr) (p : Addr) (H' : Hp), qs.Perm (xs.map (prOf H)) → qs.Pairwise plt → H p = none → Same H H' → H' p = some (.lst (mrow n qs)) → Q (.ref p) H') ∨
  ((∀ xs, listOf H y = some xs → ¬ OkPairs H n ts xs) ∧ ∀ H', Same H H' → E (.ref B) none H'))
def spAlone (C B : Addr) : Sp := fun vs H Q E => ∃ (x : Addr) (n : Nat) (ts : List Pr) (y : V) (t : Ty), vs = [.ref x, y] ∧ NetAt C H x n ts ∧ Kl H y t ∧
  ((∃ xs, listOf H y = some xs ∧ OkPairs H n ts xs ∧ ∀ (ns : List Int) (p : Addr) (H' : Hp), ns.Pairwise (· < ·) → (∀ q : Int, q ∈ ns ↔ 0 ≤ q ∧ q < (n : Int) ∧ q ∉ ends (xs.map (prOf H))) → H p = none → Same H H' → H' p = some (.lst (ns.map V.int)) → Q (.ref p) H') ∨
  ((∀ xs, listOf H y = some xs → ¬ OkPairs H n ts xs) ∧ ∀ H', Same H H' → E (.ref B) none H'))
section
variable {P : Program} {w : World} {K : PySem.W.Frag} {mg : Str → Option Value} {c : Cs} {base : Heap}
theorem ok_mates (T : Top K mg c) : Fd.Has P w K mg base (L2N.CX P w) 5 "mates_in" ["net", "pairs"] (spMates c.Net c.BadPairs) := by
  have G_checked : Fd.Has P w K mg base (L2N.CX P w) 4 "checked" ["net", "pairs"] (spChecked c.Net c.BadPairs) := ok_checked T
  refine T.d_mates_in.okN sc_mates_in (fun vs H Q E h => ?_) (fun f cdv A outer s H vs Q E hr h => ?_)
  · obtain ⟨x, n, ts, y, t, rfl, _⟩ := h; rfl
  · obtain ⟨x, n, ts, y, t, rfl, N, kl, hres⟩ := h
    have hr_checked := hr
    have n40 := N.hi
    refine ⟨_, (pss_cons (ps_set (i := 2) sc_mates_in.nd rfl (Or.inl rfl) (pe_op op_rep (pe_lst (pa_cons pe_non pa_nil)) (pe_fld (pv 0) rfl)))
      (pss_cons (ps_for (L2.passes_of rfl) rfl (pi_list (Fd.pe_fN G_checked hr_checked (by rfl) (L2N.passes_call (L2N.takes_of rfl rfl rfl rfl) fun _ _ _ _ h => h) (pa_cons (pv 0) (pa_cons (pv 1) pa_nil)))) (pg_tup rfl (pgs_cons (pg_name (i := 3) sc_mates_in.nd rfl (Or.inl rfl)) (pgs_cons (pg_name (i := 4) sc_mates_in.nd rfl (Or.inl rfl)) pgs_nil)))
      (pss_cons (ps_asg (pv 4) (pg_sub (pv 2) (pv 3) set_list))
        (pss_one (ps_asg (pv 3) (pg_sub (pv 2) (pv 4) set_list)))))
      (pss_one (ps_ret (pv 2))))), ?_⟩
    refine ⟨(by show 1 ≤ sizeLine; decide), fun p0 hp0 => ?_⟩
    have s0 : Same H (upd H p0 (.lst [.non])) := Same.new hp0
    obtain ⟨dx, lt, ln, us, rs, a1, _⟩ := (N.ex s0).at_
    refine ⟨_, rfl, x, c.Net, dx, _, _, rfl, a1, T.cl_Net, T.a_Net_size, nf_size _ _ _, p0, (n : Int), [.non], rfl, rfl, upd_same, by omega, by omega, by rw [sizeLine_eq]; show 1 * (n : Int).toNat ≤ _; omega, fun M hM => ?_⟩
    have eM : (List.replicate ((n : Int).toNat) [V.non]).flatten = mrow n [] := by
      rw [Int.toNat_natCast]
      refine List.flatten_replicate_singleton.trans ?_
      refine List.ext_getElem? fun i => ?_
      by_cases hi : i < n
      · rw [mrow_at hi, List.getElem?_replicate, if_pos hi]; rfl
      · rw [List.getElem?_replicate, if_neg hi, List.getElem?_eq_none (by rw [mrow_len]; omega)]
    rw [eM]
    have hMH : H M = none := s0.free hM
    have s1 : Same H (upd (upd H p0 (.lst [.non])) M (.lst (mrow n []))) := Same.trans s0 (Same.new hM)
    have hM1 : upd (upd H p0 (.lst [.non])) M (.lst (mrow n [])) M = some (.lst (mrow n [])) := upd_same
    generalize upd (upd H p0 (.lst [.non])) M (.lst (mrow n [])) = H1 at s1 hM1 ⊢
    rcases hres with ⟨xs, e, o, q⟩ | ⟨z, q⟩
    · refine ⟨_, rfl, _, rfl, x, n, ts, y, t, rfl, N.ex s1, kl.ex s1, .inl ⟨xs, by rw [listOf_ex kl.kd s1]; exact e, (OkPairs.ex (kl.its xs e) s1).mpr o, fun qs p us H2 pm up hp s2 hp2 np => ?_⟩⟩
      rw [prs_ex (kl.its xs e) s1] at pm
      have prs := np.prs
      have tie : ∀ pq ∈ qs, Tie n pq := fun pq hq => o.tie pq (pm.mem_iff.mp hq)
      have npM : p ≠ M := fun z => by rw [z, hM1] at hp; cases hp
      refine ⟨p, rfl, ⟨_, SqL.of hp2⟩, for_list (K := K) (a := p) (xs := us) (fun i σ H' => ∃ v3 v4, σ = [some (.ref x), some y, some (.ref M), v3, v4] ∧ Same H H' ∧ H' M = some (.lst (mrow n (qs.take i))) ∧ H' p = some (.lst us) ∧ Prs H' us qs)
        ⟨none, none, rfl, Same.trans s1 s2, s2 _ _ hM1, hp2, prs⟩ (fun i σ H' _ ⟨_, _, _, _, _, e, _⟩ => SqL.of e) ?_ ?_⟩
      · rintro i v σ H3 hi ⟨v3, v4, rfl, s3, hM3, hp3, pr3⟩
        obtain ⟨pq, b, hq, rfl, e3⟩ := pr3.get hi
        obtain ⟨t1, t2, t3⟩ := tie pq (List.mem_of_getElem? hq)
        obtain ⟨q1, q2⟩ := pq
        simp only at t1 t2 t3 e3
        obtain ⟨m1, rfl⟩ : ∃ m : Nat, q1 = (m : Int) := ⟨q1.toNat, by omega⟩
        obtain ⟨m2, rfl⟩ : ∃ m : Nat, q2 = (m : Int) := ⟨q2.toNat, by omega⟩
        have tk : qs.take (i + 1) = qs.take i ++ [((m1 : Int), (m2 : Int))] := by rw [List.take_succ, hq]; rfl
        refine ⟨b, _, rfl, SqT.of e3, rfl, _, _, rfl, _, _, rfl, rfl, ?_⟩
        refine ⟨_, rfl, _, rfl, _, rfl, M, _, (m1 : Int), m1, rfl, rfl, hM3, ixn (by rw [mrow_len]; omega), ?_⟩
        refine ⟨_, rfl, _, rfl, _, rfl, M, _, (m2 : Int), m2, rfl, rfl, upd_same, ixn (by rw [List.length_set, mrow_len]; omega), ?_⟩
        refine ⟨_, _, rfl, Same.mut (Same.mut s3 hMH) hMH, ?_, by rw [upd_ne npM, upd_ne npM]; exact hp3, pr3.tups fun c' ys e => ?_⟩
        · rw [upd_same, tk, mrow_snoc (by omega) (by omega) (by omega)]
        · have nc : c' ≠ M := ne_of e hM3 (fun z => nomatch z)
          rw [upd_ne nc, upd_ne nc]; exact e
      · rintro σ H3 ⟨v3, v4, rfl, s3, hM3, hp3, pr3⟩
        rw [prs.len, List.take_length] at hM3
        exact ⟨_, rfl, q qs M H3 pm up hMH s3 hM3⟩
    · exact ⟨_, rfl, _, rfl, x, n, ts, y, t, rfl, N.ex s1, kl.ex s1, .inr ⟨no_later kl s1 z, fun H' e => q H' (Same.trans s1 e)⟩⟩
end
end Od

namespace Od
open PySem PySem.Spec PyProof.Rows L2
/-- a list of places, none of them twice -/
def ArePl (H : Hp) (y : V) (n : Int) (ms : List Int) : Prop := listOf H y = some (ms.map V.int) ∧ (∀ m ∈ ms, 0 ≤ m ∧ m < n) ∧ ms.Nodup
/-- its kind, and the kinds of a list's items -/
structure Ki (H : Hp) (x : V) (t : Ty) : Prop where
  kd : Kd H x t
  its : ∀ xs, listOf H x = some xs → xs.length ≤ 1000 ∧ ∀ y ∈ xs, ∃ u, Kd H y u
theorem places_ints {n : Int} : ∀ {xs : List V}, (∀ v ∈ xs, isPl v n = true) → ∃ ms : List Int, xs = ms.map V.int ∧ ∀ m ∈ ms, 0 ≤ m ∧ m < n
  | [], _ => ⟨[], rfl, fun m hm => by cases hm⟩
  | v :: xs, h => by
    obtain ⟨i, rfl, a, b⟩ := isPl_int (h v List.mem_cons_self)
    obtain ⟨ms, e, r⟩ := places_ints fun z hz => h z (List.mem_cons_of_mem _ hz)
    refine ⟨i :: ms, by rw [e]; rfl, fun m hm => ?_⟩
    rcases List.mem_cons.mp hm with rfl | hm
    · exact ⟨a, b⟩
    · exact r m hm
theorem map_int_inj : ∀ {a b : List Int}, a.map V.int = b.map V.int → a = b
  | [], [], _ => rfl
  | [], _ :: _, h => by cases h
  | _ :: _, [], h => by cases h
  | x :: a, y :: b, h => by
    rw [List.map_cons, List.map_cons] at h
    injection h with h1 h2
    injection h1 with h1
    rw [h1, map_int_inj h2]
def spArePl (C : Addr) : Sp := fun vs H Q _ => ∃ (x : Addr) (n : Nat) (ts : List Pr) (y : V) (t : Ty), vs = [.ref x, y] ∧ NetAt C H x n ts ∧ Ki H y t ∧
  (∀ ms, ArePl H y n ms → Q (.bl true) H) ∧ ((∀ ms, ¬ ArePl H y n ms) → Q (.bl false) H)
section
variable {P : Program} {w : World} {K : PySem.W.Frag} {mg : Str → Option Value} {c : Cs} {base : Heap}
theorem ok_are_places (T : Top K mg c) : Fd.Has P w K mg base CX0 3 "are_places" ["net", "way"] (spArePl c.Net) := by
  have G_is_place : Fd.Has P w K mg base CX0 2 "is_place" ["thing", "size"] spPlace := ok_is_place T
  refine T.d_are_places.ok sc_are_places (fun vs H Q E h => ?_) (fun f cdv A outer s H vs Q E hr h => ?_)
  · obtain ⟨x, n, ts, y, t, rfl, _⟩ := h; rfl
  · obtain ⟨x, n, ts, y, t, rfl, N, ki, qt, qf⟩ := h
    have hr_is_place := hr
    obtain ⟨dx, lt, ln, us, rs, a1, _⟩ := N.at_
    refine ⟨_, (pss_cons (ps_if (pt_not (pt_val (pe_callB (r := rIsi K) call_isi (by rfl) T.n_isinstance boot_isinstance (pa_cons (pv 1) (pa_cons (pe_bltn (v := .ty "list") (by rfl) T.n_list boot_list rfl) pa_nil)))))
      (pss_one (ps_ret pe_bl))
      pss_nil)
      (pss_cons (ps_for PassesOwn.never rfl (pi_list (pv 1)) (pg_name (i := 2) sc_are_places.nd rfl (Or.inl rfl))
      (pss_one (ps_if (pt_not (pt_val (Fd.pe_f G_is_place hr_is_place (by rfl) (pa_cons (pv 2) (pa_cons (pe_fld (pv 0) rfl) pa_nil)))))
        (pss_one (ps_ret pe_bl))
        pss_nil)))
      (pss_one (ps_ret (pe_cmpR op_eq (St2.pe_lenD (by rfl) T.n_len (by rfl) T.n_set (pv 1)) (pe_callB call_len_seq (by rfl) T.n_len boot_len (pa_cons (pv 1) pa_nil)) (nomark _)))))), ?_⟩
    refine ⟨y, rfl, _, _, _, _, _, rfl, ClsV.ty _, ki.kd.tyx, kit_ty (kit_list t), _, rfl, ?_⟩
    by_cases ct : t = .list
    · subst ct
      rw [decide_eq_true rfl]
      refine iteF ?_
      obtain ⟨l, xs, rfl, hl⟩ := ki.kd.list_of
      have eL := listOf_lst hl
      obtain ⟨lx, kx⟩ := ki.its _ eL
      refine ⟨_, rfl, l, rfl, ⟨xs, SqL.of hl⟩, for_list (K := K) (a := l) (xs := xs) (fun i σ H' => ∃ v2, σ = [some (.ref x), some (.ref l), v2] ∧ H' = H ∧ ∀ v ∈ xs.take i, isPl v n = true)
        ⟨none, rfl, rfl, fun v hv => (by rw [List.take_zero] at hv; cases hv)⟩ (fun i σ H' _ ⟨_, _, e, _⟩ => SqL.of (by rw [e]; exact hl)) ?_ ?_⟩
      · rintro i v σ H' hi ⟨v2, rfl, rfl, al⟩
        have hv := List.mem_of_getElem? hi
        obtain ⟨u, kd⟩ := kx v hv
        have tk : xs.take (i + 1) = xs.take i ++ [v] := by rw [List.take_succ, hi]; rfl
        refine ⟨_, rfl, _, rfl, x, c.Net, dx, _, _, rfl, a1, T.cl_Net, T.a_Net_size, nf_size _ _ _, v, u, (n : Int), rfl, kd, _, rfl, ?_⟩
        cases hp : isPl v n with
        | false =>
          refine iteT (qf fun ms a => ?_)
          obtain ⟨e1, r, _⟩ := a
          rw [eL] at e1; cases e1
          obtain ⟨m, hm, rfl⟩ := List.mem_map.mp hv
          have : isPl (.int m) n = true := decide_eq_true (r m hm)
          rw [this] at hp; cases hp
        | true =>
          refine iteF ⟨_, rfl, rfl, fun z hz => ?_⟩
          rw [tk] at hz
          rcases List.mem_append.mp hz with z' | z'
          · exact al z z'
          · rw [List.mem_singleton.mp z']; exact hp
      · rintro σ H' ⟨v2, rfl, rfl, al⟩
        rw [List.take_length] at al
        obtain ⟨ms, rfl, rg⟩ := places_ints al
        rw [List.length_map] at lx
        refine ⟨_, rfl, l, ms, rfl, SqL.of hl, by omega, _, rfl, l, _, rfl, .inl (SqL.of hl), rfl, ?_⟩
        rw [vint, List.length_map]
        by_cases nd : ms.Nodup
        · rw [decide_eq_true (by rw [St2.dist_nd nd])]
          exact qt ms ⟨eL, rg, nd⟩
        · rw [decide_eq_false (fun z => nd (St2.dist_iff.mp (by omega)))]
          refine qf fun ms' a => ?_
          obtain ⟨e1, _, nd'⟩ := a
          rw [eL] at e1
          have e2 := map_int_inj (Option.some.inj e1)
          rw [e2] at nd; exact nd nd'
    · rw [decide_eq_false ct]
      refine iteT (qf fun ms a => ?_)
      obtain ⟨e1, _⟩ := a
      rw [listOf_no ki.kd ct] at e1; cases e1
end
end Od

namespace Od
open PySem PySem.Spec PyProof.Rows L2
/-- a way for the pairing qs -/
structure IsWay (n : Nat) (ts qs : List Pr) (ms : List Int) : Prop where
  rg : ∀ m ∈ ms, 0 ≤ m ∧ m < (n : Int)
  nd : ms.Nodup
  pos : 0 < ms.length
  even : ms.length % 2 = 0
  fst : ∀ m, ms[0]? = some m → mateOf qs m = .non
  lst : ∀ m, ms[ms.length - 1]? = some m → mateOf qs m = .non
  go : ∀ (i : Nat) (a b : Int), ms[i]? = some a → ms[i + 1]? = some b → b ∈ nbr ts a ∧ (mateOf qs a = .int b ↔ i % 2 = 1)
def Way (H : Hp) (y : V) (n : Nat) (ts qs : List Pr) (ms : List Int) : Prop := listOf H y = some (ms.map V.int) ∧ IsWay n ts qs ms
def spIsWay (C : Addr) : Sp := fun vs H Q _ => ∃ (x m : Addr) (n : Nat) (ts qs : List Pr) (y : V) (t : Ty), vs = [.ref x, .ref m, y] ∧ NetAt C H x n ts ∧ H m = some (.lst (mrow n qs)) ∧ Ki H y t ∧
  (∀ ms, Way H y n ts qs ms → ∀ H', Same H H' → Q (.bl true) H') ∧ ((∀ ms, ¬ Way H y n ts qs ms) → ∀ H', Same H H' → Q (.bl false) H')
section
variable {P : Program} {w : World} {K : PySem.W.Frag} {mg : Str → Option Value} {c : Cs} {base : Heap}
theorem ok_is_way (T : Top K mg c) : Fd.Has P w K mg base CX0 4 "is_way" ["net", "mates", "way"] (spIsWay c.Net) := by
  have G_are_places : Fd.Has P w K mg base CX0 3 "are_places" ["net", "way"] (spArePl c.Net) := ok_are_places T
  have G_Net_beside : Fd.MHas P w K mg base (L2N.CX P w) 3 c.Net "beside" ["self", "place"] (spBeside c.Net c.NoPlace) := ok_beside T
  refine T.d_is_way.ok sc_is_way (fun vs H Q E h => ?_) (fun f cdv A outer s H vs Q E hr h => ?_)
  · obtain ⟨x, m, n, ts, qs, y, t, rfl, _⟩ := h; rfl
  · obtain ⟨x, m, n, ts, qs, y, t, rfl, N, hm, ki, qt, qf⟩ := h
    have hr_are_places := hr
    have hr_Net_beside := hr
    have n40 := N.hi
    refine ⟨_, (pss_cons (ps_if (PW.pt (pw_or (pt_not (pt_val (Fd.pe_f G_are_places hr_are_places (by rfl) (pa_cons (pv 0) (pa_cons (pv 2) pa_nil))))) (pw_or (pt_cmpR op_eq (pe_callB call_len_seq (by rfl) T.n_len boot_len (pa_cons (pv 2) pa_nil)) pe_int (nomark _)) (pw_or1 (pt_cmpR op_eq (pe_op op_mod (pe_callB call_len_seq (by rfl) T.n_len boot_len (pa_cons (pv 2) pa_nil)) pe_int) pe_int (nomark _))))))
      (pss_one (ps_ret pe_bl))
      pss_nil)
      (pss_cons (ps_if (PW.pt (pw_or (pt_cmpR op_notN (pe_ix ix_list (pv 1) (pe_ix ix_list (pv 2) pe_int (fun _ _ => rfl)) (fun _ _ => rfl)) pe_non (nomark _)) (pw_or1 (pt_cmpR op_notN (pe_ix ix_list (pv 1) (pe_ix ix_list (pv 2) (pe_un un_neg pe_int) (fun _ _ => rfl)) (fun _ _ => rfl)) pe_non (nomark _)))))
      (pss_one (ps_ret pe_bl))
      pss_nil)
      (pss_cons (ps_for PassesOwn.never rfl (pi_range1 (by rfl) T.n_range (pa_cons (pe_op op_sub (pe_callB call_len_seq (by rfl) T.n_len boot_len (pa_cons (pv 2) pa_nil)) pe_int) pa_nil)) (pg_name (i := 3) sc_is_way.nd rfl (Or.inl rfl))
      (pss_cons (ps_set (i := 4) sc_is_way.nd rfl (Or.inl rfl) (pe_ix ix_list (pv 2) (pv 3) (fun _ _ => rfl)))
        (pss_cons (ps_set (i := 5) sc_is_way.nd rfl (Or.inl rfl) (pe_ix ix_list (pv 2) (pe_op op_add (pv 3) pe_int) (fun _ _ => rfl)))
        (pss_cons (ps_if (pt_cmpR (r := rIn K true) op_notIn_seq (pv 5) (Fd.pe_mN G_Net_beside (pv 0) T.cl_Net hr_Net_beside Fd.pass00 (pa_cons (pv 4) pa_nil)) (by rfl))
        (pss_one (ps_ret pe_bl))
        pss_nil)
        (pss_one (ps_if (pt_cmpR op_ne (pe_cmpR op_eq (pe_ix ix_list (pv 1) (pv 4) (fun _ _ => rfl)) (pv 5) (nomark _)) (pe_cmpR op_eq (pe_op op_mod (pv 3) pe_int) pe_int (nomark _)) (nomark _))
        (pss_one (ps_ret pe_bl))
        pss_nil))))))
      (pss_one (ps_ret pe_bl))))), ?_⟩
    refine ⟨_, rfl, _, rfl, x, n, ts, y, t, rfl, N, ki, fun ms ap => ?_, fun no => ?_⟩
    rotate_left
    · refine ⟨_, rfl, iteT ?_⟩
      refine iteT (qf (fun ms wy => no ms ⟨wy.1, wy.2.rg, wy.2.nd⟩) H (Same.refl H))
    · refine ⟨_, rfl, iteF ?_⟩
      obtain ⟨eL, rg, nd⟩ := ap
      obtain ⟨l, rfl, hl⟩ : ∃ l, y = .ref l ∧ H l = some (.lst (ms.map V.int)) := by
        cases t with
        | list =>
          obtain ⟨l, xs, rfl, hl⟩ := ki.kd.list_of
          rw [listOf_lst hl] at eL; cases eL
          exact ⟨l, rfl, hl⟩
        | _ => rw [listOf_no ki.kd (by decide)] at eL; cases eL
      have uni : ∀ ms', Way H (.ref l) n ts qs ms' → IsWay n ts qs ms := fun ms' wy => by
        obtain ⟨e1, w'⟩ := wy
        rw [eL] at e1
        rw [map_int_inj (Option.some.inj e1)]; exact w'
      have bad : ¬ IsWay n ts qs ms → ∀ H', Same H H' → Q (.bl false) H' := fun z => qf fun ms' wy => z (uni ms' wy)
      refine ⟨_, rfl, l, _, rfl, .inl (SqL.of hl), rfl, _, rfl, ?_⟩
      rw [vint, List.length_map]
      by_cases c0 : ms.length = 0
      · rw [decide_eq_true (by omega)]
        refine iteT (iteT (bad (fun z => by have := z.pos; omega) H (Same.refl H)))
      rw [decide_eq_false (by omega)]
      refine iteF ⟨_, rfl, l, _, rfl, .inl (SqL.of hl), _, _, rfl, rfl, (by show (0 : Int) < 2; decide), rfl, _, rfl, ?_⟩
      rw [vint, List.length_map]
      by_cases c1 : ms.length % 2 = 1
      · rw [decide_eq_true (by omega)]
        refine iteT (bad (fun z => by have := z.even; omega) H (Same.refl H))
      rw [decide_eq_false (by omega)]
      refine iteF ?_
      have atM : ∀ k : Int, 0 ≤ k → k < (n : Int) → atI (mrow n qs) k = some (mateOf qs k) := fun k h0 h1 => by
        have q1 := atI_nat (mrow_at (n := n) (ps := qs) (i := k.toNat) (by omega))
        rw [show ((k.toNat : Nat) : Int) = k by omega] at q1; exact q1
      have atW : ∀ j : Nat, ∀ k : Int, ms[j]? = some k → atI (ms.map V.int) (j : Int) = some (V.int k) := fun j k h => atI_nat (by rw [List.getElem?_map, h]; rfl)
      obtain ⟨k0, hk0⟩ : ∃ k, ms[0]? = some k := ⟨_, List.getElem?_eq_getElem (by omega)⟩
      obtain ⟨k9, hk9⟩ : ∃ k, ms[ms.length - 1]? = some k := ⟨_, List.getElem?_eq_getElem (by omega)⟩
      have r0 := rg k0 (List.mem_of_getElem? hk0)
      have r9 := rg k9 (List.mem_of_getElem? hk9)
      have at9 : atI (ms.map V.int) (-1) = some (V.int k9) := by
        unfold atI ixN
        rw [List.length_map, if_neg (by decide), if_pos (by omega)]
        have e : (-1 + ((ms.length : Nat) : Int)).toNat = ms.length - 1 := by omega
        rw [e]
        show (ms.map V.int)[ms.length - 1]? = _
        rw [List.getElem?_map, hk9]; rfl
      refine ⟨_, rfl, _, rfl, l, _, (0 : Int), V.int k0, rfl, rfl, SqL.of hl, atW 0 k0 hk0, m, _, k0, _, rfl, rfl, SqL.of hm, atM k0 r0.1 r0.2, rfl, _, rfl, ?_⟩
      by_cases c2 : mateOf qs k0 = .non
      · rw [decide_eq_true c2]
        refine iteF ⟨_, rfl, _, rfl, _, rfl, l, _, (-1 : Int), V.int k9, rfl, rfl, SqL.of hl, at9, m, _, k9, _, rfl, rfl, SqL.of hm, atM k9 r9.1 r9.2, rfl, _, rfl, ?_⟩
        by_cases c3 : mateOf qs k9 = .non
        · rw [decide_eq_true c3]
          refine iteF ?_
          refine ⟨_, rfl, l, _, rfl, .inl (SqL.of hl), _, _, rfl, rfl, (((ms.map V.int).length : Nat) : Int) - 1, rfl, by rw [List.length_map]; have := (ki.its _ eL).1; rw [List.length_map] at this; omega, by rw [List.length_map]; have := (ki.its _ eL).1; rw [List.length_map] at this; omega, for_range (lo := 0) (n := ((((ms.map V.int).length : Nat) : Int) - 1).toNat) (fun i σ H' => ∃ v3 v4 v5, σ = [some (.ref x), some (.ref m), some (.ref l), v3, v4, v5] ∧ Same H H' ∧ ∀ (j : Nat) (a b : Int), j < i → ms[j]? = some a → ms[j + 1]? = some b → b ∈ nbr ts a ∧ (mateOf qs a = .int b ↔ j % 2 = 1))
            ⟨none, none, none, rfl, Same.refl H, fun j a b hj => absurd hj (Nat.not_lt_zero _)⟩ ?_ ?_⟩
          · rintro i σ H1 hi ⟨v3, v4, v5, rfl, s1, go⟩
            rw [show (0 : Int) + (i : Int) = (i : Int) from Int.zero_add _]
            rw [List.length_map] at hi
            obtain ⟨a, ha⟩ : ∃ a, ms[i]? = some a := ⟨_, List.getElem?_eq_getElem (by omega)⟩
            obtain ⟨b, hb⟩ : ∃ b, ms[i + 1]? = some b := ⟨_, List.getElem?_eq_getElem (by omega)⟩
            have ra := rg a (List.mem_of_getElem? ha)
            have rb := rg b (List.mem_of_getElem? hb)
            have hl1 := s1 _ _ hl
            have atb := atW (i + 1) b hb
            rw [show (((i + 1 : Nat) : Nat) : Int) = (i : Int) + 1 by omega] at atb
            obtain ⟨dx, lt, ln, us, rs, a1, _⟩ := (N.ex s1).at_
            refine ⟨_, rfl, _, rfl, l, _, (i : Int), V.int a, rfl, rfl, SqL.of hl1, atW i a ha, ?_⟩
            refine ⟨_, rfl, _, rfl, _, _, rfl, rfl, l, _, (i : Int) + 1, V.int b, rfl, rfl, SqL.of hl1, atb, ?_⟩
            obtain ⟨an, rfl⟩ : ∃ an : Nat, a = (an : Int) := ⟨a.toNat, by omega⟩
            refine ⟨_, rfl, _, rfl, x, dx, _, rfl, a1, nf_beside _ _ _, _, rfl, x, n, ts, _, _, rfl, N.ex s1, .int _, fun i' e hi' D hD => ?_, fun z => ?_⟩
            rotate_left
            · have : isPl (.int (an : Int)) n = true := decide_eq_true ⟨by omega, by omega⟩
              rw [this] at z; cases z
            injection e with e
            obtain rfl : an = i' := by omega
            have s2 := Same.trans s1 (Same.new (o := .lst ((nbr ts (an : Int)).map V.int)) hD)
            refine ⟨D, _, rfl, .inl (SqL.of upd_same), rfl, flat_ints _, _, rfl, ?_⟩
            rw [inV_ints]
            by_cases cb : b ∈ nbr ts (an : Int)
            · rw [decide_eq_true cb]
              refine iteF ?_
              have sc : scal (mateOf qs (an : Int)) (.int b) = true := by
                rcases mate_kind qs (an : Int) with h | ⟨k, h⟩
                · rw [h]; rfl
                · rw [h]; rfl
              refine ⟨_, rfl, _, rfl, m, _, (an : Int), _, rfl, rfl, SqL.of (s2 _ _ hm), atM _ ra.1 ra.2, _, rfl, sc, _, rfl, _, _, rfl, rfl, (by show (0 : Int) < 2; decide), rfl, rfl, _, rfl, ?_⟩
              rw [vint]
              have eb : ∀ p q : Bool, decide (V.bl p = V.bl q) = decide (p = q) := fun p q => by
                cases p <;> cases q <;> rfl
              rw [eb]
              have ei : decide ((i : Int) % 2 = 1) = decide (i % 2 = 1) := by
                by_cases z : i % 2 = 1
                · rw [decide_eq_true z, decide_eq_true (by omega)]
                · rw [decide_eq_false z, decide_eq_false (by omega)]
              rw [ei]
              by_cases pq : (mateOf qs (an : Int) = .int b ↔ i % 2 = 1)
              · rw [decide_eq_decide.mpr pq, decide_eq_true rfl]
                refine iteF ⟨_, _, _, rfl, s2, fun j a' b' hj h1 h2 => ?_⟩
                by_cases ej : j = i
                · subst ej
                  rw [ha] at h1; cases h1
                  rw [hb] at h2; cases h2
                  exact ⟨cb, pq⟩
                · exact go j a' b' (by omega) h1 h2
              · rw [decide_eq_false (fun z => pq (decide_eq_decide.mp z))]
                exact iteT (bad (fun z => pq (z.go i _ b ha hb).2) _ s2)
            · rw [decide_eq_false cb]
              exact iteT (bad (fun z => cb (z.go i _ b ha hb).1) _ s2)
          · rintro σ H1 ⟨v3, v4, v5, rfl, s1, go⟩
            refine qt ms ⟨eL, rg, nd, by omega, by omega, fun k hk => ?_, fun k hk => ?_, fun j a b h1 h2 => ?_⟩ H1 s1
            · rw [hk0] at hk; cases hk; exact c2
            · rw [hk9] at hk; cases hk; exact c3
            · have jl := (List.getElem?_eq_some_iff.mp h2).1
              exact go j a b (by rw [List.length_map]; omega) h1 h2
        · rw [decide_eq_false c3]
          exact iteT (bad (fun z => c3 (z.lst k9 hk9)) H (Same.refl H))
      · rw [decide_eq_false c2]
        exact iteT (iteT (bad (fun z => c2 (z.fst k0 hk0)) H (Same.refl H)))
end
end Od

namespace Od
open PySem PySem.Spec PyProof.Rows L2
def mm (a b : Int) : Pr := (if b < a then b else a, if b > a then b else a)
/-- the steps of a way -/
def stp (ms : List Int) : Nat → List Pr
  | 0 => []
  | i + 1 => stp ms i ++ [mm (ms.getD i 0) (ms.getD (i + 1) 0)]
theorem stp_len (ms : List Int) : ∀ i, (stp ms i).length = i
  | 0 => rfl
  | i + 1 => by rw [stp, List.length_append, stp_len ms i]; rfl
def unt (ss : List Pr) (qs : List Pr) : List Pr := qs.filter fun q => decide (q ∉ ss)
theorem shaped_dP (p : Pr) : SeqAt.shaped (dP p) = true := by unfold SeqAt.shaped dP; simp [PyData.canLay0, PyData.canLayAll0, PyData.depth, PyData.depthAll]
theorem any_dP (p : Pr) : ∀ ts : List Pr, ((ts.map dP).any fun z => PyData.eqv z (dP p)) = decide (p ∈ ts)
  | [] => rfl
  | t :: ts => by
    rw [List.map_cons, List.any_cons, any_dP p ts, eqv_dP]
    by_cases h : t = p
    · subst h; simp
    · rw [decide_eq_false h, Bool.false_or]
      by_cases h2 : p ∈ ts
      · rw [decide_eq_true h2, decide_eq_true (List.mem_cons_of_mem _ h2)]
      · rw [decide_eq_false h2, decide_eq_false]
        intro z
        rcases List.mem_cons.mp z with z | z
        · exact h z.symm
        · exact h2 z
theorem ev_new {H H' : Hp} : ∀ {us : List V} {ts : List Pr}, NewPrs H H' us ts → NewPrs H H' (St2.ev us) (St2.ev ts)
  | _, _, .nil => .nil
  | _, _, .cons h .nil => .cons h .nil
  | _, _, .cons h (.cons _ t) => .cons h (ev_new t)
theorem new_app {H H' : Hp} {us vs : List V} {ts ss : List Pr} (h : NewPrs H H' us ts) (g : NewPrs H H' vs ss) : NewPrs H H' (us ++ vs) (ts ++ ss) := by
  induction h with
  | nil => exact g
  | cons r _ ih => exact .cons r ih
theorem new_all {H H' : Hp} {us : List V} {ts : List Pr} (h : NewPrs H H' us ts) : ∀ M : List V, (∀ v ∈ M, v ∈ us) → NewPrs H H' M (M.map (prOf H'))
  | [], _ => .nil
  | v :: M, hM => by
    obtain ⟨j, hj⟩ := List.getElem?_of_mem (hM v List.mem_cons_self)
    exact .cons (h.item hj) (new_all h M fun y hy => hM y (List.mem_cons_of_mem _ hy))
theorem unt_snoc (ss qs : List Pr) (q : Pr) : unt ss (qs ++ [q]) = if q ∈ ss then unt ss qs else unt ss qs ++ [q] := by
  unfold unt
  rw [List.filter_append]
  by_cases h : q ∈ ss
  · rw [if_pos h, List.filter_cons_of_neg (by simpa using h)]; simp
  · rw [if_neg h, List.filter_cons_of_pos (by simpa using h)]; simp
theorem unt_len (ss qs : List Pr) : (unt ss qs).length ≤ qs.length := List.length_filter_le _ _
theorem cut1 {xs : List V} (h : 0 < xs.length) : cutV xs (some 1) none = xs.drop 1 := by
  have e1 : HT.sIx xs.length 0 (some 1) = 1 := by
    unfold HT.sIx
    simp
    try omega
  have e2 : HT.sIx xs.length xs.length none = xs.length := rfl
  unfold cutV
  rw [e1, e2, List.take_of_length_le (by rw [List.length_drop]; exact Nat.le_refl _)]
theorem ok_prs {H : Hp} {ws : List V} {ps ts : List Pr} {n : Nat} (pp : Prs H ws ps) (tie : ∀ z ∈ ts, Tie n z) (sub : ∀ z ∈ ps, z ∈ ts) (nd : (ends ps).Nodup) : OkPairs H n ts ws := by
  refine ⟨fun y hy => ?_, fun y hy => ?_, by rw [pp.prOf]; exact nd⟩
  · obtain ⟨j, hj⟩ := List.getElem?_of_mem hy
    obtain ⟨pq, b, hq, rfl, e⟩ := pp.get hj
    exact (isTie_of (tupOf_tup e) (tie pq (sub pq (List.mem_of_getElem? hq)))).1
  · obtain ⟨j, hj⟩ := List.getElem?_of_mem hy
    obtain ⟨pq, b, hq, rfl, e⟩ := pp.get hj
    have e2 : prOf H (.ref b) = pq := by unfold prOf; rw [tupOf_tup e]
    rw [e2]; exact sub pq (List.mem_of_getElem? hq)
theorem Ki.ex {H H' : Hp} {x : V} {t : Ty} (k : Ki H x t) (e : Same H H') : Ki H' x t := by
  refine ⟨k.kd.ex e, fun xs h => ?_⟩
  rw [listOf_ex k.kd e] at h
  obtain ⟨l, q⟩ := k.its xs h
  exact ⟨l, fun y hy => let ⟨u, z⟩ := q y hy; ⟨u, z.ex e⟩⟩
def spTurned (C B : Addr) : Sp := fun vs H Q E => ∃ (x : Addr) (n : Nat) (ts qs : List Pr) (y z : V) (t tz : Ty) (xs : List V), vs = [.ref x, y, z] ∧ NetAt C H x n ts ∧ Kl H y t ∧ listOf H y = some xs ∧ OkPairs H n ts xs ∧ Ki H z tz ∧ qs.Perm (xs.map (prOf H)) ∧ qs.Pairwise plt ∧
  ((∃ ms, Way H z n ts qs ms ∧ ∀ (res : List Pr) (p : Addr) (us : List V) (H' : Hp), res.Perm (unt (stp ms (ms.length - 1)) qs ++ St2.ev (stp ms (ms.length - 1))) → res.Pairwise (fun a b => ¬ plt b a) → H p = none → Same H H' → H' p = some (.lst us) → NewPrs H H' us res → Q (.ref p) H') ∨
  ((∀ ms, ¬ Way H z n ts qs ms) ∧ ∀ H', Same H H' → E (.ref B) none H'))
section
variable {P : Program} {w : World} {K : PySem.W.Frag} {mg : Str → Option Value} {c : Cs} {base : Heap}
theorem ok_turned (T : Top K mg c) : Fd.Has P w K mg base (L2N.CX P w) 6 "turned" ["net", "pairs", "way"] (spTurned c.Net c.BadWay) := by
  have G_checked : Fd.Has P w K mg base (L2N.CX P w) 4 "checked" ["net", "pairs"] (spChecked c.Net c.BadPairs) := ok_checked T
  have G_mates_in : Fd.Has P w K mg base (L2N.CX P w) 5 "mates_in" ["net", "pairs"] (spMates c.Net c.BadPairs) := ok_mates T
  have G_is_way : Fd.Has P w K mg base CX0 4 "is_way" ["net", "mates", "way"] (spIsWay c.Net) := ok_is_way T
  refine T.d_turned.okN sc_turned (fun vs H Q E h => ?_) (fun f cdv A outer s H vs Q E hr h => ?_)
  · obtain ⟨x, n, ts, qs, y, z, t, tz, xs, rfl, _⟩ := h; rfl
  · obtain ⟨x, n, ts, qs, y, z, t, tz, xs, rfl, N, kl, e, o, ki, pm, up, hres⟩ := h
    have hr_checked := hr.mono (show 4 ≤ 5 by decide)
    have hr_mates_in := hr
    have hr_is_way := hr.mono (show 4 ≤ 5 by decide)
    have n40 := N.hi
    refine ⟨_, (pss_cons (ps_set (i := 3) sc_turned.nd rfl (Or.inl rfl) (Fd.pe_fN G_checked hr_checked (by rfl) (L2N.passes_call (L2N.takes_of rfl rfl rfl rfl) fun _ _ _ _ h => h) (pa_cons (pv 0) (pa_cons (pv 1) pa_nil))))
      (pss_cons (ps_if (pt_not (pt_val (Fd.pe_f G_is_way hr_is_way (by rfl) (pa_cons (pv 0) (pa_cons (Fd.pe_fN G_mates_in hr_mates_in (by rfl) (L2N.passes_call (L2N.takes_of rfl rfl rfl rfl) fun _ _ _ _ h => h) (pa_cons (pv 0) (pa_cons (pv 3) pa_nil))) (pa_cons (pv 2) pa_nil))))))
      (pss_one (L2N.ps_raise rfl (L2N.takes_of rfl rfl rfl rfl) (L2N.pmk_own PySem.F.excBase_ValueError T.e_BadWay.x T.e_BadWay.c T.e_BadWay.p (raises_own T.e_BadWay.b T.e_BadWay.t) (by rfl))))
      pss_nil)
      (pss_cons (ps_set (i := 4) sc_turned.nd rfl (Or.inr rfl) (pe_lc (own := [("one", 6), ("other", 7)]) (g := gTup K 2 (gCons (gName 6) (gCons (gName 7) gNil))) rfl sc_turned.nd (pi_zip (by rfl) T.n_zip (pa_cons (pv 2) (pa_cons (pe_slice sl_list (pv 2) (po_some pe_int) po_none) pa_nil))) (blkOk_by (own := [("one", 6), ("other", 7)]) (N := N_turned) (sc := defScope S_turned) (by decide +kernel)) (fun _ _ _ _ _ => (pg_tup rfl (pgs_cons (pg_name (i := 6) sc_turned.nd rfl (Or.inl rfl)) (pgs_cons (pg_name (i := 7) sc_turned.nd rfl (Or.inl rfl)) pgs_nil)))) (fun _ _ _ _ _ => pts_nil) (fun _ _ _ _ _ => (pe_tup (pa_cons (pe_callB (call_min2 rfl) (by rfl) T.n_min boot_min (pa_cons (pv 6) (pa_cons (pv 7) pa_nil))) (pa_cons (pe_callB (call_max2 rfl) (by rfl) T.n_max boot_max (pa_cons (pv 6) (pa_cons (pv 7) pa_nil))) pa_nil))))))
      (pss_cons (ps_setLc (i := 5) (own := [("pair", 8)]) (g := gName 8) rfl sc_turned.nd rfl rfl (sw_true rfl rfl rfl (by decide +kernel)) (pi_list (pv 3)) (blkOk_by (own := [("pair", 8)]) (N := N_turned) (sc := defScope S_turned) (by decide +kernel)) (fun _ _ _ _ _ => pg_name (i := 8) sc_turned.nd rfl (Or.inl rfl)) (fun _ _ _ _ _ => (pts_one (pt_cmpR (r := rNotInD K) (op_notInD (Sd.u65 hr)) (pv 8) (pv 4) (by rfl)))) (fun _ _ _ _ _ => (pv 8)))
      (pss_one (ps_ret (pe_callB cr_sortedPO (by rfl) T.n_sorted boot_sorted (pa_cons (pe_op op_cat (pv 5) (St2.pe_evL (pv 4))) pa_nil)))))))), ?_⟩
    refine ⟨_, rfl, _, rfl, x, n, ts, y, t, rfl, N, kl, .inl ⟨xs, e, o, fun q1 F uF H1 pm1 up1 hF s1 hF1 np => ?_⟩⟩
    obtain rfl : q1 = qs := plt_one (pm1.trans pm.symm) up1 up
    have prF := np.prs
    have sub : ∀ pq ∈ q1, pq ∈ ts := fun pq hq => by
      obtain ⟨v, hv, rfl⟩ := List.mem_map.mp (pm.mem_iff.mp hq)
      exact o.tied v hv
    have nd : (ends q1).Nodup := (ends_perm pm).nodup_iff.mpr o.one
    refine ⟨_, rfl, _, rfl, _, rfl, x, n, ts, _, .list, rfl, N.ex s1, kl_lst hF1 prF.kt, .inl ⟨uF, listOf_lst hF1, ok_prs prF N.tie sub nd, fun q2 M H2 pm2 up2 hM s2 hM2 => ?_⟩⟩
    rw [prF.prOf] at pm2
    obtain rfl : q2 = q1 := plt_one pm2 up2 up
    have s02 := Same.trans s1 s2
    have lo := listOf_ex ki.kd s02
    refine ⟨_, rfl, x, M, n, ts, q2, z, tz, rfl, N.ex s02, hM2, ki.ex s02, fun ms wy H3 s3 => ?_, fun no H3 s3 => ?_⟩
    rotate_left
    · refine ⟨_, rfl, iteT ?_⟩
      rcases hres with ⟨ms, wy, _⟩ | ⟨_, q⟩
      · exact absurd ⟨lo.trans wy.1, wy.2⟩ (no ms)
      · exact q H3 (Same.trans s02 s3)
    refine ⟨_, rfl, iteF ?_⟩
    rcases hres with ⟨ms', wy', q⟩ | ⟨no, _⟩
    rotate_left
    · exact absurd ⟨lo.symm.trans wy.1, wy.2⟩ (no ms)
    obtain rfl : ms' = ms := by
      have e1 := wy.1
      rw [lo, wy'.1] at e1
      exact map_int_inj (Option.some.inj e1)
    have W := wy.2
    obtain ⟨l, rfl, hl⟩ : ∃ l, z = .ref l ∧ H l = some (.lst (ms'.map V.int)) := by
      have eL := wy'.1
      cases tz with
      | list =>
        obtain ⟨l, xs, rfl, hl⟩ := ki.kd.list_of
        rw [listOf_lst hl] at eL; cases eL
        exact ⟨l, rfl, hl⟩
      | _ => rw [listOf_no ki.kd (by decide)] at eL; cases eL
    have wpos := W.pos
    have weven := W.even
    have s03 := Same.trans s02 s3
    have hl3 := s03 _ _ hl
    have lenw := (ki.its _ wy'.1).1
    rw [List.length_map] at lenw
    refine ⟨_, rfl, _, rfl, _, rfl, l, _, rfl, SqL.of hl3, fun e1 f1 => ?_⟩
    have b1 := Same.new (o := .lst (cutV (ms'.map V.int) (some 1) none)) f1
    have he1 : upd H3 e1 (.lst (cutV (ms'.map V.int) (some 1) none)) e1 = some (.lst ((ms'.map V.int).drop 1)) := by rw [upd_same, cut1 (by rw [List.length_map]; exact wpos)]
    generalize upd H3 e1 (.lst (cutV (ms'.map V.int) (some 1) none)) = H4 at b1 he1 ⊢
    have s04 := Same.trans s03 b1
    have hl4 := b1 _ _ hl3
    refine ⟨l, e1, _, _, rfl, SqL.of hl4, SqL.of he1, fun D hD => ?_⟩
    refine lc_it (walk_zip (n := ms'.length - 1) (by rw [List.length_drop, List.length_map]; omega)) (fun i Hc => ∃ vs : List V, Same H4 Hc ∧ Hc D = some (.lst vs) ∧ NewPrs H Hc vs (stp ms' i)) ⟨[], Same.new hD, upd_same, .nil⟩ (fun i Hc _ ⟨_, e, _⟩ => ⟨SqL.of (e _ _ hl4), SqL.of (e _ _ he1)⟩) ?_ ?_
    · rintro i v Hc H' hi ⟨vs, s5, hDc, npc⟩ ⟨tt, x1, y1, rfl, htt, rfl, hx1, hy1⟩
      have hx1 : (ms'.map V.int)[i]? = some x1 := hx1
      have hy1 : ((ms'.map V.int).drop 1)[i]? = some y1 := hy1
      rw [List.getElem?_map] at hx1
      obtain ⟨a, ha, rfl⟩ := Option.map_eq_some_iff.mp hx1
      rw [List.getElem?_drop, List.getElem?_map] at hy1
      obtain ⟨b, hb, rfl⟩ := Option.map_eq_some_iff.mp hy1
      have ga : ms'.getD i 0 = a := by rw [List.getD_eq_getElem?_getD, ha]; rfl
      have gb : ms'.getD (i + 1) 0 = b := by rw [List.getD_eq_getElem?_getD, show i + 1 = 1 + i by omega, hb]; rfl
      have b2 : Same Hc (upd Hc tt (.tup [.int a, .int b])) := Same.new htt
      have lvs := npc.len
      rw [stp_len] at lvs
      refine ⟨tt, _, rfl, SqT.of upd_same, rfl, _, _, rfl, _, _, rfl, rfl, rfl, tyes (iteT ?_)⟩
      refine ⟨_, rfl, _, rfl, a, b, rfl, _, rfl, _, rfl, a, b, rfl, (by show 2 ≤ sizeLine; decide), fun r hr' => ?_⟩
      have b3 := Same.new (o := .tup [.int (mm a b).1, .int (mm a b).2]) hr'
      have hD2 : upd (upd Hc tt (.tup [.int a, .int b])) r (.tup [.int (mm a b).1, .int (mm a b).2]) D = some (.lst vs) := b3 _ _ (b2 _ _ hDc)
      have sH := Same.trans (Same.trans (Same.trans s04 s5) b2) b3
      have nrD : r ≠ D := fun z => by
        rw [z] at hr'
        have h1 := b2 _ _ hDc
        rw [hr'] at h1; cases h1
      refine ⟨vs, hD2, by rw [sizeLine_eq]; omega, vs ++ [.ref r], Same.mut (Same.trans (Same.trans s5 b2) b3) hD, upd_same, ?_⟩
      rw [stp, ga, gb]
      refine NewPrs.snoc (npc.tups fun c' ys e => ?_) ⟨r, rfl, (Same.trans (Same.trans s04 s5) b2).free hr', by rw [upd_ne nrD]; exact upd_same⟩
      rw [upd_ne (ne_of (b3 _ _ (b2 _ _ e)) hD2 (fun z => nomatch z))]
      exact b3 _ _ (b2 _ _ e)
    rintro H5 ⟨vs, s5, hD5, nps⟩
    have s05 := Same.trans s04 s5
    have s15 := Same.trans (Same.trans (Same.trans s2 s3) b1) s5
    have npF : NewPrs H H5 uF _ := np.tups fun c' ys e => s15 _ _ e
    have hF5 := s15 _ _ hF1
    have lF := npF.len
    have fewq := (OkPairs.few o)
    have lq := pm.length_eq
    rw [List.length_map] at lq
    -- those that are not steps
    refine ⟨_, rfl, F, rfl, ⟨uF, SqL.of hF5⟩, fun D2 hD2 => ?_⟩
    have prsS := nps.prs
    refine lc_list (xs := uF) (fun j Hc => ∃ us : List V, Same H5 Hc ∧ Hc D2 = some (.lst us) ∧ NewPrs H Hc us (unt (stp ms' (ms'.length - 1)) (q2.take j))) ⟨[], Same.new hD2, upd_same, .nil⟩ (fun j Hc _ ⟨_, e, _⟩ => SqL.of (e _ _ hF5)) ?_ ?_
    · rintro j v Hc hj ⟨us, s6, hDc, npu⟩
      obtain ⟨pq, a, hpq, rfl, ea⟩ := npF.prs.get hj
      have ea6 := s6 _ _ ea
      have tk : q2.take (j + 1) = q2.take j ++ [pq] := by rw [List.take_succ, hpq]; rfl
      have lus := npu.len
      have lun := unt_len (stp ms' (ms'.length - 1)) (q2.take j)
      rw [List.length_take] at lun
      refine ⟨rfl, _, rfl, _, rfl, dP pq, (stp ms' (ms'.length - 1)).map dP, .tup (SqT.of ea6) (.cons (.int _) (.cons (.int _) .nil)), dp_prs (SqL.of (s6 _ _ hD5)) (prsS.ex s6), shaped_dP _, shaped_dPs _, _, rfl, ?_⟩
      rw [any_dP]
      by_cases cm : pq ∈ stp ms' (ms'.length - 1)
      · rw [decide_eq_true cm]
        refine iteF ⟨us, s6, hDc, ?_⟩
        rw [tk, unt_snoc, if_pos cm]; exact npu
      · rw [decide_eq_false cm]
        refine iteT ⟨_, rfl, us, hDc, by rw [sizeLine_eq]; omega, us ++ [.ref a], Same.mut s6 hD2, upd_same, ?_⟩
        rw [tk, unt_snoc, if_neg cm]
        obtain ⟨a', e1, e2, e3⟩ := npF.item hj
        cases e1
        refine NewPrs.snoc (npu.tups fun c' ys e => ?_) ⟨a, rfl, e2, ?_⟩
        · rw [upd_ne (ne_of e hDc (fun z => nomatch z))]; exact e
        · rw [upd_ne (ne_of ea6 hDc (fun z => nomatch z))]; exact ea6
    rintro H6 ⟨us, s6, hD6, npu⟩
    rw [lF, List.take_length] at npu
    have lus := npu.len
    have lun := unt_len (stp ms' (ms'.length - 1)) q2
    have npS6 : NewPrs H H6 vs (stp ms' (ms'.length - 1)) := nps.tups fun c' ys e => s6 _ _ e
    have s06 := Same.trans s05 s6
    have lvs := nps.len
    rw [stp_len] at lvs
    refine ⟨_, rfl, _, rfl, D, vs, rfl, SqL.of (s6 _ _ hD5), fun e2 f2 => ?_⟩
    have b2 := Same.new (o := .lst (St2.ev vs)) f2
    have lev : (St2.ev vs).length ≤ 1000 := by rw [St2.ev_len]; omega
    refine ⟨D2, e2, _, _, rfl, rfl, b2 _ _ hD6, upd_same, by rw [sizeLine_eq]; omega, fun e3 f3 => ?_⟩
    have b3 : Same (upd H6 e2 (.lst (St2.ev vs))) (upd (upd H6 e2 (.lst (St2.ev vs))) e3 (.lst (us ++ St2.ev vs))) := Same.new f3
    have he3 : upd (upd H6 e2 (.lst (St2.ev vs))) e3 (.lst (us ++ St2.ev vs)) e3 = some (.lst (us ++ St2.ev vs)) := upd_same
    have s67 := Same.trans b2 b3
    generalize upd (upd H6 e2 (.lst (St2.ev vs))) e3 (.lst (us ++ St2.ev vs)) = H7 at he3 s67 ⊢
    have s07 := Same.trans s06 s67
    have all7 : NewPrs H H7 (us ++ St2.ev vs) _ := (new_app npu (ev_new npS6)).tups fun c' ys e => s67 _ _ e
    have prs7 := all7.prs
    refine ⟨e3, us ++ St2.ev vs, prOf H7, rfl, SqL.of he3, fun v hv => ?_, fun ys r sd sb hr' => ?_⟩
    · obtain ⟨j, hj⟩ := List.getElem?_of_mem hv
      obtain ⟨a, h1, _, h3⟩ := all7.item hj
      exact ⟨a, h1, h3⟩
    · have pmr := sb.perm.map (prOf H7)
      rw [prs7.prOf] at pmr
      refine q (ys.map (prOf H7)) r ys _ pmr ?_ (s07.free hr') (Same.trans s07 (Same.new hr')) upd_same ?_
      · refine List.pairwise_map.mpr (sd.imp fun {a b} h => ?_)
        exact SrtO.lexB_no.mp h
      · refine (new_all all7 ys fun v hv => sb.perm.mem_iff.mp hv).tups fun c' zs e => ?_
        rw [upd_ne (ne_of_none e hr')]; exact e
end
end Od

namespace Od
open PySem PySem.Spec PyProof.Rows L2
theorem srt_prs {H : Hp} {ws ys : List V} {ps : List Pr} (pp : Prs H ws ps) (nd : ps.Nodup) (sd : SrtO.Srtd (ltP (prOf H)) ys) (sb : SrtO.Stb (ltP (prOf H)) ys ws) : (ys.map (prOf H)).Perm ps ∧ (ys.map (prOf H)).Pairwise plt ∧ Prs H ys (ys.map (prOf H)) := by
  have pm : (ys.map (prOf H)).Perm ps := by
    have h1 := sb.perm.map (prOf H)
    rw [pp.prOf] at h1; exact h1
  refine ⟨pm, ?_, ?_⟩
  · refine List.pairwise_map.mpr ?_
    exact (sd.and (List.pairwise_map.mp (pm.nodup_iff.mpr nd))).imp fun {a b} h => ltP_plt h.1 h.2
  · have key : ∀ M : List V, (∀ v ∈ M, v ∈ ws) → Prs H M (M.map (prOf H)) := by
      intro M
      induction M with
      | nil => intro _; exact .nil
      | cons v M ih =>
        intro hM
        obtain ⟨j, hj⟩ := List.getElem?_of_mem (hM v List.mem_cons_self)
        obtain ⟨pq, b, _, rfl, e⟩ := pp.get hj
        have e2 : prOf H (.ref b) = pq := by unfold prOf; rw [tupOf_tup e]
        exact .cons ⟨b, rfl, by rw [e2]; exact e⟩ (ih fun y hy => hM y (List.mem_cons_of_mem _ hy))
    exact key ys fun v hv => sb.perm.mem_iff.mp hv
theorem prs_each {H : Hp} {ws : List V} {ps : List Pr} (pp : Prs H ws ps) : ∀ v ∈ ws, ∃ t, v = V.ref t ∧ H t = some (.tup [.int (prOf H v).1, .int (prOf H v).2]) := fun v hv => by
  obtain ⟨j, hj⟩ := List.getElem?_of_mem hv
  obtain ⟨pq, b, _, rfl, e⟩ := pp.get hj
  have e2 : prOf H (.ref b) = pq := by unfold prOf; rw [tupOf_tup e]
  exact ⟨b, rfl, by rw [e2]; exact e⟩
theorem plt_strict {l : List Pr} (h : l.Pairwise fun a b => ¬ plt b a) (nd : l.Nodup) : l.Pairwise plt :=
  (h.and nd).imp fun {a b} z => by
    obtain ⟨z1, z2⟩ := z
    obtain ⟨a1, a2⟩ := a
    obtain ⟨b1, b2⟩ := b
    unfold plt at z1 ⊢
    simp only at z1 ⊢
    have : ¬ (a1 = b1 ∧ a2 = b2) := fun e => z2 (by rw [e.1, e.2])
    omega
open Classical in
theorem srt_ex (l : List Pr) (nd : l.Nodup) : ∃ q : List Pr, q.Perm l ∧ q.Pairwise plt := by
  refine ⟨l.mergeSort fun a b => decide (¬ plt b a), List.mergeSort_perm _ _, ?_⟩
  have h := List.pairwise_mergeSort (le := fun a b : Pr => decide (¬ plt b a)) (fun a b c h1 h2 => ?_) (fun a b => ?_) l
  · refine plt_strict (h.imp fun z => of_decide_eq_true z) ((List.mergeSort_perm _ _).nodup_iff.mpr nd)
  · have h1 := of_decide_eq_true h1
    have h2 := of_decide_eq_true h2
    refine decide_eq_true ?_
    unfold plt at *
    omega
  · by_cases c : plt b a
    · have : ¬ plt a b := by unfold plt at *; omega
      rw [decide_eq_true this, Bool.or_true]
    · rw [decide_eq_true c, Bool.true_or]
theorem Prs.take {H : Hp} : ∀ {us : List V} {ts : List Pr} (j : Nat), Prs H us ts → Prs H (us.take j) (ts.take j)
  | _, _, 0, _ => by rw [List.take_zero, List.take_zero]; exact .nil
  | _, _, j + 1, .nil => .nil
  | _, _, j + 1, .cons a t => .cons a (Prs.take j t)
theorem Prs.drop {H : Hp} : ∀ {us : List V} {ts : List Pr} (j : Nat), Prs H us ts → Prs H (us.drop j) (ts.drop j)
  | _, _, 0, h => h
  | _, _, j + 1, .nil => .nil
  | _, _, j + 1, .cons a t => Prs.drop j t
theorem Prs.app {H : Hp} {us vs : List V} {ts ss : List Pr} (h : Prs H us ts) (g : Prs H vs ss) : Prs H (us ++ vs) (ts ++ ss) := by
  induction h with
  | nil => exact g
  | cons r _ ih => exact .cons r ih
theorem Prs.rev {H : Hp} : ∀ {us : List V} {ts : List Pr}, Prs H us ts → Prs H us.reverse ts.reverse
  | _, _, .nil => .nil
  | _, _, .cons a t => by rw [List.reverse_cons, List.reverse_cons]; exact (Prs.rev t).app (.cons a .nil)
/-- what makes a net -/
theorem good_nd {H : Hp} {k : Addr} {us : List V} {ts : List Pr} {n : Nat} (h : H k = some (.lst us)) (p : Prs H us ts) (tie : ∀ x ∈ ts, Tie n x) (nd : ts.Nodup) (h1 : 1 ≤ n) (h2 : n ≤ 40) : Good H (.int n) (.ref k) n ts := by
  refine ⟨rfl, h1, h2, us, listOf_lst h, ⟨fun y hy => ?_, by rw [p.prOf]; exact nd⟩, p.prOf.symm⟩
  obtain ⟨i, hi⟩ := List.getElem?_of_mem hy
  obtain ⟨z, b, hz, rfl, e⟩ := p.get hi
  exact (isTie_of (tupOf_tup e) (tie z (List.mem_of_getElem? hz))).1
def spLaw (K : PySem.W.Frag) : Sp := fun vs H Q _ => ∃ (a : Addr) (ns : List Int), vs = [.ref a] ∧ SqL K H a (ns.map V.int) ∧ ns.length ≤ 63 ∧ ∀ H', Q (.bl true) H'
/-! ### pairings as mathematics -/
/-- the mate, if there is one -/
def mo (qs : List Pr) (i : Int) : Option Int := match mateOf qs i with
  | .int k => some k
  | _ => none
theorem mo_none {qs : List Pr} {i : Int} : mo qs i = none ↔ mateOf qs i = .non := by
  unfold mo
  rcases mate_kind qs i with h | ⟨k, h⟩
  · rw [h]; exact ⟨fun _ => rfl, fun _ => rfl⟩
  · rw [h]; exact ⟨fun z => (by cases z), fun z => (by cases z)⟩
theorem mo_some {qs : List Pr} {i k : Int} : mo qs i = some k ↔ mateOf qs i = .int k := by
  unfold mo
  rcases mate_kind qs i with h | ⟨j, h⟩
  · rw [h]; exact ⟨fun z => (by cases z), fun z => (by cases z)⟩
  · rw [h]; exact ⟨fun z => (by injection z with z; rw [z]), fun z => (by injection z with z; rw [z])⟩
theorem mo_free {qs : List Pr} {i : Int} : mo qs i = none ↔ i ∉ ends qs := mo_none.trans mate_non
theorem fold_off {i : Int} : ∀ (ps : List Pr) (acc : V), i ∉ ends ps → ps.foldl (mst i) acc = acc
  | [], _, _ => rfl
  | p :: ps, acc, h => by
    have h' : i ∉ p.1 :: p.2 :: ends ps := h
    simp only [List.mem_cons, not_or] at h'
    rw [List.foldl_cons, fold_off ps _ h'.2.2]
    unfold mst
    rw [if_neg fun z => h'.1 z.symm, if_neg fun z => h'.2.1 z.symm]
theorem mate_in {qs : List Pr} (nd : (ends qs).Nodup) {a b : Int} (h : (a, b) ∈ qs) : mateOf qs a = .int b ∧ mateOf qs b = .int a := by
  obtain ⟨s, t, rfl⟩ := List.append_of_mem h
  have e : ends (s ++ (a, b) :: t) = ends s ++ (a :: b :: ends t) := by unfold ends; rw [List.flatMap_append]; rfl
  rw [e] at nd
  obtain ⟨_, n2, _⟩ := List.nodup_append.mp nd
  obtain ⟨na, n3⟩ := List.nodup_cons.mp n2
  obtain ⟨nb, _⟩ := List.nodup_cons.mp n3
  have nab : a ≠ b := fun z => na (z ▸ List.mem_cons_self)
  have na' : a ∉ ends t := fun z => na (List.mem_cons_of_mem _ z)
  unfold mateOf
  rw [List.foldl_append, List.foldl_append, List.foldl_cons, List.foldl_cons, fold_off t _ na', fold_off t _ nb]
  unfold mst
  rw [if_pos rfl, if_neg nab, if_pos rfl]
  exact ⟨rfl, rfl⟩
theorem mate_mem {qs : List Pr} {a b : Int} (h : mateOf qs a = .int b) : (a, b) ∈ qs ∨ (b, a) ∈ qs := by
  have key : ∀ (ps : List Pr) (acc : V), ps.foldl (mst a) acc = .int b → acc = .int b ∨ (a, b) ∈ ps ∨ (b, a) ∈ ps := fun ps => by
    induction ps with
    | nil => exact fun acc h => .inl h
    | cons p ps ih =>
      intro acc h
      rw [List.foldl_cons] at h
      rcases ih _ h with z | z | z
      · unfold mst at z
        by_cases c1 : p.1 = a
        · rw [if_pos c1] at z; injection z with z
          exact .inr (.inl (by rw [← c1, ← z]; exact List.mem_cons_self))
        · rw [if_neg c1] at z
          by_cases c2 : p.2 = a
          · rw [if_pos c2] at z; injection z with z
            exact .inr (.inr (by rw [← c2, ← z]; exact List.mem_cons_self))
          · rw [if_neg c2] at z; exact .inl z
      · exact .inr (.inl (List.mem_cons_of_mem _ z))
      · exact .inr (.inr (List.mem_cons_of_mem _ z))
  rcases key qs .non h with z | z
  · cases z
  · exact z
theorem mate_iff {qs : List Pr} (nd : (ends qs).Nodup) {a b : Int} : mateOf qs a = .int b ↔ (a, b) ∈ qs ∨ (b, a) ∈ qs :=
  ⟨mate_mem, fun h => h.elim (fun h => (mate_in nd h).1) fun h => (mate_in nd h).2⟩
theorem mm_pr {n : Int} {p : Pr} (h : Tie n p) : mm p.1 p.2 = p ∧ mm p.2 p.1 = p := by
  obtain ⟨a, b⟩ := p
  obtain ⟨_, h2, _⟩ := h
  simp only at h2
  unfold mm
  constructor
  · rw [if_neg (by omega), if_pos (by omega)]
  · rw [if_pos (by omega), if_neg (by omega)]
theorem mm_cases (a b : Int) : mm a b = (a, b) ∨ mm a b = (b, a) := by
  unfold mm
  by_cases c : b < a
  · rw [if_pos c, if_neg (by omega)]; exact .inr rfl
  · rw [if_neg c]
    by_cases d : b > a
    · rw [if_pos d]; exact .inl rfl
    · rw [if_neg d, show b = a by omega]; exact .inl rfl
theorem mm_comm (a b : Int) : mm a b = mm b a := by
  unfold mm
  refine Prod.ext ?_ ?_
  · show (if b < a then b else a) = (if a < b then a else b)
    by_cases c : b < a
    · rw [if_pos c, if_neg (by omega)]
    · rw [if_neg c]
      by_cases d : a < b
      · rw [if_pos d]
      · rw [if_neg d]; omega
  · show (if b > a then b else a) = (if a > b then a else b)
    by_cases c : b > a
    · rw [if_pos c, if_neg (by omega)]
    · rw [if_neg c]
      by_cases d : a > b
      · rw [if_pos d]
      · rw [if_neg d]; omega
/-- a pairing of the net with these ties -/
structure Pg (n : Nat) (ts qs : List Pr) : Prop where
  tie : ∀ p ∈ ts, Tie n p
  sub : ∀ p ∈ qs, p ∈ ts
  nd : (ends qs).Nodup
section
variable {n : Nat} {ts qs : List Pr}
theorem mm_mem (tie : ∀ p ∈ ts, Tie (n : Int) p) {a b : Int} : mm a b ∈ ts ↔ (a, b) ∈ ts ∨ (b, a) ∈ ts := by
  constructor
  · intro h
    rcases mm_cases a b with e | e
    · rw [e] at h; exact .inl h
    · rw [e] at h; exact .inr h
  · rintro (h | h)
    · have := (mm_pr (tie _ h)).1; simp only at this; rw [this]; exact h
    · have := (mm_pr (tie _ h)).2; simp only at this; rw [this]; exact h
theorem nbr_mm (tie : ∀ p ∈ ts, Tie (n : Int) p) {a b : Int} : b ∈ nbr ts a ↔ mm a b ∈ ts := (nbr_mem tie).trans (mm_mem tie).symm
theorem gr_nbr (tie : ∀ p ∈ ts, Tie (n : Int) p) : Ge.Gr (nbr ts) := ⟨fun h => nbr_sym tie h, fun {p} h => by
  rcases (nbr_mem tie).mp h with z | z
  · have := (tie _ z).2.1; simp only at this; omega
  · have := (tie _ z).2.1; simp only at this; omega⟩
theorem Pg.tieq (g : Pg n ts qs) : ∀ p ∈ qs, Tie n p := fun p hp => g.tie p (g.sub p hp)
theorem Pg.mate (g : Pg n ts qs) {a b : Int} : mateOf qs a = .int b ↔ mm a b ∈ qs := (mate_iff g.nd).trans (mm_mem g.tieq).symm
theorem Pg.mt (g : Pg n ts qs) : Ge.Mt (nbr ts) (mo qs) := by
  refine ⟨fun {p q} h => ?_, fun {p q} h => ?_⟩
  · rw [mo_some, g.mate] at h ⊢; rw [mm_comm]; exact h
  · rw [mo_some, g.mate] at h
    exact (nbr_mm g.tie).mpr (g.sub _ h)
theorem Pg.rng (g : Pg n ts qs) : ∀ q ∈ ends qs, 0 ≤ q ∧ q < (n : Int) := ends_rng g.tieq
theorem Pg.count (g : Pg n ts qs) : (Ge.un n (mo qs)).length + 2 * qs.length = n := by
  rw [← ends_len, ← List.length_append]
  have nd : (Ge.un n (mo qs) ++ ends qs).Nodup := List.nodup_append.mpr ⟨Ge.pl_nd, g.nd, fun a ha b hb e => by
    subst e
    exact mo_free.mp (Ge.pl_mem.mp ha).2 hb⟩
  have nr : ((List.range n).map fun i : Nat => (i : Int)).Nodup := List.pairwise_map.mpr (List.nodup_range.imp fun h e => h (by omega))
  have h1 := Ge.sub_len nd (l2 := (List.range n).map fun i : Nat => (i : Int)) fun a ha => by
    have : 0 ≤ a ∧ a < (n : Int) := by
      rcases List.mem_append.mp ha with z | z
      · exact (Ge.pl_mem.mp z).1
      · exact g.rng a z
    exact List.mem_map.mpr ⟨a.toNat, List.mem_range.mpr (by omega), by omega⟩
  have h2 := Ge.sub_len nr (l2 := Ge.un n (mo qs) ++ ends qs) fun a ha => by
    obtain ⟨i, hi, rfl⟩ := List.mem_map.mp ha
    have := List.mem_range.mp hi
    by_cases c : (i : Int) ∈ ends qs
    · exact List.mem_append_right _ c
    · exact List.mem_append_left _ (Ge.pl_mem.mpr ⟨by omega, mo_free.mpr c⟩)
  rw [List.length_map, List.length_range] at h1 h2
  omega
theorem nbr_rg (tie : ∀ p ∈ ts, Tie (n : Int) p) : ∀ {p q : Int}, q ∈ nbr ts p → 0 ≤ q ∧ q < (n : Int) := fun h => nbr_rng tie h
end
/-! ### a way turned -/
theorem stp_at (ms : List Int) : ∀ (k i : Nat), i < k → (stp ms k)[i]? = some (mm (ms.getD i 0) (ms.getD (i + 1) 0))
  | 0, i, h => by omega
  | k + 1, i, h => by
    rw [stp]
    by_cases c : i < k
    · rw [List.getElem?_append_left (by rw [stp_len]; exact c)]; exact stp_at ms k i c
    · obtain rfl : i = k := by omega
      rw [List.getElem?_append_right (by rw [stp_len]; omega), stp_len, Nat.sub_self]; rfl
theorem ev_at {α : Type} : ∀ (xs : List α) (i : Nat), (St2.ev xs)[i]? = xs[2 * i]?
  | [], i => by rw [show St2.ev ([] : List α) = [] from rfl]; simp
  | [x], i => by
    rw [show St2.ev [x] = [x] from rfl]
    cases i with
    | zero => rfl
    | succ i => rw [List.getElem?_eq_none (by simp), List.getElem?_eq_none (by simp; omega)]
  | x :: y :: t, i => by
    rw [show St2.ev (x :: y :: t) = x :: St2.ev t from rfl]
    cases i with
    | zero => rfl
    | succ i =>
      rw [List.getElem?_cons_succ, ev_at t i, show 2 * (i + 1) = 2 * i + 1 + 1 by omega, List.getElem?_cons_succ, List.getElem?_cons_succ]
theorem getD_at {ms : List Int} {i : Nat} {a : Int} (h : ms[i]? = some a) : ms.getD i 0 = a := by rw [List.getD_eq_getElem?_getD, h]; rfl
/-- the steps at the even places -/
def due (ms : List Int) : List Pr := St2.ev (stp ms (ms.length - 1))
theorem due_mem {ms : List Int} {p : Pr} : p ∈ due ms ↔ ∃ (i : Nat) (a b : Int), ms[2 * i]? = some a ∧ ms[2 * i + 1]? = some b ∧ p = mm a b := by
  unfold due
  constructor
  · intro h
    obtain ⟨i, hi⟩ := List.getElem?_of_mem h
    rw [ev_at] at hi
    have hl := (List.getElem?_eq_some_iff.mp hi).1
    rw [stp_len] at hl
    rw [stp_at ms _ _ hl] at hi
    have h1 : 2 * i < ms.length := by omega
    have h2 : 2 * i + 1 < ms.length := by omega
    refine ⟨i, ms[2 * i], ms[2 * i + 1], List.getElem?_eq_getElem h1, List.getElem?_eq_getElem h2, ?_⟩
    rw [getD_at (List.getElem?_eq_getElem h1), getD_at (List.getElem?_eq_getElem h2)] at hi
    exact (Option.some.inj hi).symm
  · rintro ⟨i, a, b, h1, h2, rfl⟩
    have hl := (List.getElem?_eq_some_iff.mp h2).1
    refine List.mem_of_getElem? (i := i) ?_
    rw [ev_at, stp_at ms _ _ (by omega), getD_at h1, getD_at h2]
theorem due_len {ms : List Int} (he : ms.length % 2 = 0) : (due ms).length = ms.length / 2 := by
  unfold due
  rw [St2.ev_len, stp_len]; omega
theorem ends_mm (a b : Int) : ∀ x, x ∈ [(mm a b).1, (mm a b).2] ↔ x = a ∨ x = b := fun x => by
  rcases mm_cases a b with e | e
  · rw [e]; simp
  · rw [e]; simp [or_comm]
theorem due_ends {ms : List Int} (he : ms.length % 2 = 0) {x : Int} : x ∈ ends (due ms) ↔ x ∈ ms := by
  unfold ends
  rw [List.mem_flatMap]
  constructor
  · rintro ⟨p, hp, hx⟩
    obtain ⟨i, a, b, h1, h2, rfl⟩ := due_mem.mp hp
    rcases (ends_mm a b x).mp hx with rfl | rfl
    · exact List.mem_of_getElem? h1
    · exact List.mem_of_getElem? h2
  · intro hx
    obtain ⟨i, hi⟩ := List.getElem?_of_mem hx
    have hl := (List.getElem?_eq_some_iff.mp hi).1
    by_cases c : i % 2 = 0
    · have h2 : i + 1 < ms.length := by omega
      refine ⟨mm x ms[i+1], due_mem.mpr ⟨i / 2, x, ms[i+1], ?_, ?_, rfl⟩, (ends_mm _ _ _).mpr (.inl rfl)⟩
      · rw [show 2 * (i / 2) = i by omega]; exact hi
      · rw [show 2 * (i / 2) + 1 = i + 1 by omega]; exact List.getElem?_eq_getElem h2
    · have h2 : i - 1 < ms.length := by omega
      refine ⟨mm ms[i-1] x, due_mem.mpr ⟨i / 2, ms[i-1], x, ?_, ?_, rfl⟩, (ends_mm _ _ _).mpr (.inr rfl)⟩
      · rw [show 2 * (i / 2) = i - 1 by omega]; exact List.getElem?_eq_getElem h2
      · rw [show 2 * (i / 2) + 1 = i by omega]; exact hi
theorem nodup_of_len {l l2 : List Int} (h2 : l2.Nodup) (s : ∀ a ∈ l2, a ∈ l) (e : l.length ≤ l2.length) : l.Nodup := by
  have key : ∀ (l l2 : List Int), l2.Nodup → (∀ a ∈ l2, a ∈ l) → l.length ≤ l2.length → l.Nodup := by
    intro l
    induction l with
    | nil => exact fun _ _ _ _ => List.nodup_nil
    | cons a t ih =>
      intro l2 nd s e
      rw [List.length_cons] at e
      have am : a ∉ t := fun z => by
        have := Ge.sub_len nd (l2 := t) fun b hb => (List.mem_cons.mp (s b hb)).elim (fun h => h ▸ z) id
        omega
      refine List.nodup_cons.mpr ⟨am, ih (l2.erase a) (nd.erase a) (fun b hb => ?_) ?_⟩
      · obtain ⟨h1, h2⟩ := (List.Nodup.mem_erase_iff nd).mp hb
        exact (List.mem_cons.mp (s b h2)).resolve_left h1
      · have := List.length_erase (a := a) (l := l2)
        split at this <;> omega
  exact key l l2 h2 s e
theorem due_nd {ms : List Int} (he : ms.length % 2 = 0) (nd : ms.Nodup) : (ends (due ms)).Nodup :=
  nodup_of_len nd (fun a ha => (due_ends he).mpr ha) (by rw [ends_len, due_len he]; omega)
theorem IsWay.step {n : Nat} {ts qs : List Pr} {ms : List Int} (w : IsWay n ts qs ms) {p : Pr} : p ∈ stp ms (ms.length - 1) ↔ ∃ (i : Nat) (a b : Int), ms[i]? = some a ∧ ms[i + 1]? = some b ∧ p = mm a b := by
  constructor
  · intro h
    obtain ⟨i, hi⟩ := List.getElem?_of_mem h
    have hl := (List.getElem?_eq_some_iff.mp hi).1
    rw [stp_len] at hl
    rw [stp_at ms _ _ hl] at hi
    have h1 : i < ms.length := by omega
    have h2 : i + 1 < ms.length := by omega
    rw [getD_at (List.getElem?_eq_getElem h1), getD_at (List.getElem?_eq_getElem h2)] at hi
    exact ⟨i, ms[i], ms[i+1], List.getElem?_eq_getElem h1, List.getElem?_eq_getElem h2, (Option.some.inj hi).symm⟩
  · rintro ⟨i, a, b, h1, h2, rfl⟩
    have hl := (List.getElem?_eq_some_iff.mp h2).1
    refine List.mem_of_getElem? (i := i) ?_
    rw [stp_at ms _ _ (by omega), getD_at h1, getD_at h2]
section
variable {n : Nat} {ts qs : List Pr} {ms : List Int}
/-- a pair with a place of the way is a step -/
theorem IsWay.pair (g : Pg n ts qs) (w : IsWay n ts qs ms) {a b : Int} (h : mm a b ∈ qs) (ha : a ∈ ms) : mm a b ∈ stp ms (ms.length - 1) := by
  have hm := g.mate.mpr h
  obtain ⟨i, hi⟩ := List.getElem?_of_mem ha
  have hl := (List.getElem?_eq_some_iff.mp hi).1
  have ev := w.even
  by_cases c : i % 2 = 1
  · by_cases d : i = ms.length - 1
    · subst d
      rw [w.lst a hi] at hm; cases hm
    · have h2 : i + 1 < ms.length := by omega
      obtain ⟨_, k⟩ := w.go i a ms[i+1] hi (List.getElem?_eq_getElem h2)
      have k := k.mpr c
      rw [hm] at k; injection k with k
      exact w.step.mpr ⟨i, a, b, hi, by rw [List.getElem?_eq_getElem h2, k], rfl⟩
  · cases i with
    | zero => rw [w.fst a hi] at hm; cases hm
    | succ j =>
      have h2 : j < ms.length := by omega
      obtain ⟨_, k⟩ := w.go j ms[j] a (List.getElem?_eq_getElem h2) hi
      have k := k.mpr (by omega)
      rw [g.mate, mm_comm] at k
      have k := g.mate.mpr k
      rw [hm] at k; injection k with k
      exact w.step.mpr ⟨j, b, a, by rw [List.getElem?_eq_getElem h2, k], hi, mm_comm a b⟩
theorem unt_mem {ss : List Pr} {p : Pr} : p ∈ unt ss qs ↔ p ∈ qs ∧ p ∉ ss := by
  unfold unt
  rw [List.mem_filter]
  constructor
  · rintro ⟨h1, h2⟩; exact ⟨h1, of_decide_eq_true h2⟩
  · rintro ⟨h1, h2⟩; exact ⟨h1, decide_eq_true h2⟩
/-- the way turned -/
def trnd (ms : List Int) (qs : List Pr) : List Pr := unt (stp ms (ms.length - 1)) qs ++ due ms
theorem ends_app (a b : List Pr) : ends (a ++ b) = ends a ++ ends b := by unfold ends; rw [List.flatMap_append]
theorem mem_ends {ps : List Pr} {x : Int} : x ∈ ends ps ↔ ∃ p ∈ ps, x = p.1 ∨ x = p.2 := by
  unfold ends
  rw [List.mem_flatMap]
  constructor
  · rintro ⟨p, h, hx⟩; simp at hx; exact ⟨p, h, hx⟩
  · rintro ⟨p, h, hx⟩; exact ⟨p, h, by simp; exact hx⟩
theorem IsWay.off (g : Pg n ts qs) (w : IsWay n ts qs ms) {x : Int} (h : x ∈ ends (unt (stp ms (ms.length - 1)) qs)) : x ∉ ms := fun hx => by
  obtain ⟨p, hp, e⟩ := mem_ends.mp h
  obtain ⟨h1, h2⟩ := unt_mem.mp hp
  obtain ⟨m1, m2⟩ := mm_pr (g.tieq p h1)
  rcases e with e | e
  · refine h2 ?_
    rw [← m1]
    exact w.pair g (by rw [m1]; exact h1) (e ▸ hx)
  · refine h2 ?_
    rw [← m2]
    exact w.pair g (by rw [m2]; exact h1) (e ▸ hx)
theorem trnd_ends (g : Pg n ts qs) (w : IsWay n ts qs ms) {x : Int} : x ∈ ends (trnd ms qs) ↔ x ∈ ms ∨ x ∈ ends qs := by
  unfold trnd
  rw [ends_app, List.mem_append, due_ends w.even]
  constructor
  · rintro (h | h)
    · obtain ⟨p, hp, e⟩ := mem_ends.mp h
      exact .inr (mem_ends.mpr ⟨p, (unt_mem.mp hp).1, e⟩)
    · exact .inl h
  · rintro (h | h)
    · exact .inr h
    · by_cases c : x ∈ ms
      · exact .inr c
      · obtain ⟨p, hp, e⟩ := mem_ends.mp h
        refine .inl (mem_ends.mpr ⟨p, unt_mem.mpr ⟨hp, fun z => c ?_⟩, e⟩)
        obtain ⟨i, a, b, h1, h2, rfl⟩ := w.step.mp z
        have := (ends_mm a b x).mp (by simp; exact e)
        rcases this with rfl | rfl
        · exact List.mem_of_getElem? h1
        · exact List.mem_of_getElem? h2
theorem IsWay.pg (g : Pg n ts qs) (w : IsWay n ts qs ms) : Pg n ts (trnd ms qs) := by
  refine ⟨g.tie, fun p hp => ?_, ?_⟩
  · rcases List.mem_append.mp hp with h | h
    · exact g.sub p (unt_mem.mp h).1
    · obtain ⟨i, a, b, h1, h2, rfl⟩ := due_mem.mp h
      exact (nbr_mm g.tie).mp (w.go _ a b h1 h2).1
  · unfold trnd
    rw [ends_app]
    refine List.nodup_append.mpr ⟨?_, due_nd w.even w.nd, fun a ha b hb e => ?_⟩
    · have := g.nd
      unfold ends at this ⊢
      unfold unt
      have key : ∀ {a b : List Pr}, a.Sublist b → (a.flatMap fun p => [p.1, p.2]).Sublist (b.flatMap fun p => [p.1, p.2]) := fun h => by
        induction h with
        | slnil => exact List.Sublist.refl _
        | cons p _ ih => rw [List.flatMap_cons]; exact ih.trans (List.sublist_append_right _ _)
        | cons_cons p _ ih => rw [List.flatMap_cons, List.flatMap_cons]; exact (List.Sublist.refl _).append ih
      exact this.sublist (key List.filter_sublist)
    · subst e
      exact w.off g ha ((due_ends w.even).mp hb)
theorem trnd_len (g : Pg n ts qs) (w : IsWay n ts qs ms) : (trnd ms qs).length = qs.length + 1 := by
  have g2 := w.pg g
  have ev := w.even
  have pos := w.pos
  obtain ⟨a, ha⟩ : ∃ a, ms[0]? = some a := ⟨_, List.getElem?_eq_getElem (by omega)⟩
  obtain ⟨b, hb⟩ : ∃ b, ms[ms.length - 1]? = some b := ⟨_, List.getElem?_eq_getElem (by omega)⟩
  have fa := mate_non.mp (w.fst a ha)
  have fb := mate_non.mp (w.lst b hb)
  have nab : a ≠ b := fun z => by
    subst z
    have := Ge.nodup_at w.nd ha hb
    omega
  have nd : (a :: b :: ends qs).Nodup := List.nodup_cons.mpr ⟨fun z => (List.mem_cons.mp z).elim nab fa, List.nodup_cons.mpr ⟨fb, g.nd⟩⟩
  have h1 := Ge.sub_len nd (l2 := ends (trnd ms qs)) fun x hx => by
    rw [trnd_ends g w]
    rcases List.mem_cons.mp hx with rfl | hx
    · exact .inl (List.mem_of_getElem? ha)
    · rcases List.mem_cons.mp hx with rfl | hx
      · exact .inl (List.mem_of_getElem? hb)
      · exact .inr hx
  have h2 := Ge.sub_len g2.nd (l2 := a :: b :: ends qs) fun x hx => by
    rcases (trnd_ends g w).mp hx with h | h
    · obtain ⟨i, hi⟩ := List.getElem?_of_mem h
      have hl := (List.getElem?_eq_some_iff.mp hi).1
      by_cases c0 : i = 0
      · subst c0; rw [ha] at hi; cases hi; exact List.mem_cons_self
      by_cases c9 : i = ms.length - 1
      · subst c9; rw [hb] at hi; cases hi; exact List.mem_cons_of_mem _ List.mem_cons_self
      refine List.mem_cons_of_mem _ (List.mem_cons_of_mem _ ?_)
      apply Classical.byContradiction
      intro no
      have nn := mate_non.mpr no
      by_cases c : i % 2 = 1
      · have q := (w.go i x ms[i+1] hi (List.getElem?_eq_getElem (by omega))).2.mpr c
        rw [nn] at q; cases q
      · obtain ⟨j, rfl⟩ : ∃ j, i = j + 1 := ⟨i - 1, by omega⟩
        have q := (w.go j ms[j] x (List.getElem?_eq_getElem (by omega)) hi).2.mpr (by omega)
        rw [g.mate, mm_comm] at q
        have q := g.mate.mpr q
        rw [nn] at q; cases q
    · exact List.mem_cons_of_mem _ (List.mem_cons_of_mem _ h)
  rw [List.length_cons, List.length_cons, ends_len, ends_len] at h1
  rw [List.length_cons, List.length_cons, ends_len, ends_len] at h2
  omega
end
end Od

namespace Od
open PySem PySem.Spec PyProof.Rows L2 TL
theorem tl_int {i : Int} (h : 0 ≤ i) : tl (Str.ofString (toString i)) = numL i.toNat := by
  have e : i = ((i.toNat : Nat) : Int) := by omega
  rw [e, tl_num]; rfl
theorem num_len {i : Int} (h : 0 ≤ i) (h2 : i < 100) : (Str.ofString (toString i)).length ≤ 2 := by
  rw [len_tl, tl_int h]; exact Tx.numL_small (by omega)
theorem log_small {i : Int} (h : 0 ≤ i) (h2 : i < 100) : i.natAbs.log2 < 1920 := by
  have : i.natAbs.log2 ≤ 7 := by
    have h3 : i.natAbs < 2 ^ 7 := by show i.natAbs < 128; omega
    by_cases z : i.natAbs = 0
    · rw [z]; decide
    · exact Nat.le_of_lt ((Nat.log2_lt z).mpr h3)
  omega
theorem word_len {n : Int} {p : Pr} (h : Tie n p) (hn : n ≤ 100) : (32 :: Tx.tw p).length ≤ 6 := by
  obtain ⟨t1, t2, t3⟩ := h
  have l1 := Tx.numL_small (k := p.1.toNat) (by omega)
  have l2 := Tx.numL_small (k := p.2.toNat) (by omega)
  unfold Tx.tw
  rw [List.length_cons, List.length_append, List.length_cons]; omega
theorem sum_le {k : Nat} : ∀ {ws : List Str}, (∀ x ∈ ws, x.length ≤ k) → (ws.map (·.length)).sum ≤ ws.length * k
  | [], _ => Nat.zero_le _
  | x :: ws, h => by
    have h1 := h x List.mem_cons_self
    have h2 := sum_le (ws := ws) fun y hy => h y (List.mem_cons_of_mem _ hy)
    rw [List.map_cons, List.sum_cons, List.length_cons, Nat.succ_mul]; omega
theorem flat_len : ∀ L : List (List Nat), L.flatten.length = (L.map List.length).sum := fun L => List.length_flatten
def spShown (C : Addr) : Sp := fun vs H Q _ => ∃ (x : Addr) (n : Nat) (ts : List Pr), vs = [.ref x] ∧ NetAt C H x n ts ∧ ∀ (y : Str) (H' : Hp), Same H H' → tl y = Tx.txt n ts → Q (.str y) H'
def numV : Option Nat → V
  | none => .non
  | some k => .int (k : Nat)
def spNumIn : Sp := fun vs H Q _ => ∃ w : Str, vs = [.str w] ∧ w.length ≤ 100000 ∧ Q (numV (Tx.numIn (tl w))) H
def spTieIn : Sp := fun vs H Q _ => ∃ w : Str, vs = [.str w] ∧ w.length ≤ 100000 ∧ ∀ p H', H p = none → Same H H' → H' p = some (.tup [numV (Tx.tieIn (tl w)).1, numV (Tx.tieIn (tl w)).2]) → Q (.ref p) H'
section
variable {P : Program} {w : World} {K : PySem.W.Frag} {mg : Str → Option Value} {c : Cs} {base : Heap}
theorem ok_shown (T : Top K mg c) : Fd.Has P w K mg base CX0 2 "shown" ["net"] (spShown c.Net) := by
  have G_Net_ties : Fd.MHas P w K mg base CX0 1 c.Net "ties" ["self"] (spTies c.Net) := ok_ties T
  refine T.d_shown.ok sc_shown (fun vs H Q E h => ?_) (fun f cdv A outer s H vs Q E hr h => ?_)
  · obtain ⟨x, n, ts, rfl, _⟩ := h; rfl
  · obtain ⟨x, n, ts, rfl, N, q⟩ := h
    have hr_Net_ties := hr
    refine ⟨_, (pss_cons (ps_setLc (i := 1) (own := [("one", 2), ("other", 3)]) (g := gTup K 2 (gCons (gName 2) (gCons (gName 3) gNil))) rfl sc_shown.nd rfl rfl (sw_true rfl rfl rfl (by decide +kernel)) (pi_list (Fd.pe_m0 G_Net_ties (pv 0) T.cl_Net hr_Net_ties)) (blkOk_by (own := [("one", 2), ("other", 3)]) (N := N_shown) (sc := defScope S_shown) (by decide +kernel)) (fun _ _ _ _ _ => (pg_tup rfl (pgs_cons (pg_name (i := 2) sc_shown.nd rfl (Or.inl rfl)) (pgs_cons (pg_name (i := 3) sc_shown.nd rfl (Or.inl rfl)) pgs_nil)))) (fun _ _ _ _ _ => pts_nil) (fun _ _ _ _ _ => (Fs.pe_jd (.cons pe_str (.cons (pe_fmt (pv 2)) (.cons pe_str (.cons (pe_fmt (pv 3)) .nil)))))))
      (pss_one (ps_ret (pe_op op_add_str (Fs.pe_jd (.cons (pe_fmt (pe_fld (pv 0) rfl)) (.cons pe_str .nil))) (pe_join pe_str (pv 1)))))), ?_⟩
    have n40 := N.hi
    have few := N.few
    obtain ⟨dx, lt, ln, us, rs, a1, _⟩ := N.at_
    refine ⟨_, rfl, x, dx, _, rfl, a1, nf_m_ties _ _ _, x, n, ts, rfl, N, fun p us hp pr => ?_⟩
    have s1 : Same H (upd H p (.lst us)) := Same.new hp
    have ep : upd H p (.lst us) p = some (.lst us) := upd_same
    have pr1 := pr.ex s1
    generalize upd H p (.lst us) = H1 at s1 ep pr1 ⊢
    have lus := pr1.len
    refine ⟨p, rfl, ⟨_, SqL.of ep⟩, fun D hD => ?_⟩
    refine lc_list (xs := us) (fun i Hc => ∃ ws : List Str, Same H1 Hc ∧ Hc D = some (.lst (ws.map V.str)) ∧ ws.map tl = (ts.take i).map fun p => 32 :: Tx.tw p) ⟨[], Same.new hD, upd_same, rfl⟩ (fun i Hc _ ⟨_, e, _⟩ => SqL.of (e _ _ ep)) ?_ ?_
    · rintro i y Hc hi ⟨ws, s2, hDc, ew⟩
      obtain ⟨z, b, hz, rfl, hb⟩ := pr1.get hi
      have il := (List.getElem?_eq_some_iff.mp hz).1
      have tz := N.tie z (List.mem_of_getElem? hz)
      obtain ⟨t1, t2, t3⟩ := tz
      have lw := congrArg List.length ew
      rw [List.length_map, List.length_map, List.length_take] at lw
      have tk : ts.take (i + 1) = ts.take i ++ [z] := by rw [List.take_succ, hz]; rfl
      have l1 := num_len (i := z.1) (by omega) (by omega)
      have l2 := num_len (i := z.2) (by omega) (by omega)
      refine ⟨b, _, rfl, SqT.of (s2 _ _ hb), rfl, _, _, rfl, _, _, rfl, rfl, rfl, tyes (iteT ?_)⟩
      refine ⟨_, rfl, (by show 1 ≤ sizeLine; decide), _, rfl, .inr ⟨z.1, rfl, log_small (by omega) (by omega), _, rfl, ?_, _, rfl, ?_, _, rfl, .inr ⟨z.2, rfl, log_small (by omega) (by omega), _, rfl, ?_, ?_⟩⟩⟩
      · rw [Fs.len_app, sizeLine_eq]; show 1 + _ ≤ _; omega
      · rw [Fs.len_app, Fs.len_app, sizeLine_eq]; show 1 + _ + 1 ≤ _; omega
      · rw [Fs.len_app, Fs.len_app, Fs.len_app, sizeLine_eq]; show 1 + _ + 1 + _ ≤ _; omega
      · refine ⟨_, hDc, by rw [List.length_map, sizeLine_eq]; omega, ws ++ [_], Same.mut s2 hD, by rw [upd_same, List.map_append]; rfl, ?_⟩
        rw [tk, List.map_append, List.map_append, ew]
        congr 1
        show [tl _] = [_]
        rw [tl_append, tl_append, tl_append, tl_append, tl_int (by omega), tl_int (by omega)]
        unfold Tx.tw
        congr 1
        show (([] ++ [32]) ++ _) ++ [45] ++ _ = _
        rw [List.append_assoc, List.append_assoc]; rfl
    · rintro H2 ⟨ws, s2, hD2, ew⟩
      rw [lus, List.take_length] at ew
      have ll := congrArg List.length ew
      rw [List.length_map, List.length_map] at ll
      refine tnx ?_
      dsimp only
      have l1 := num_len (i := (n : Int)) (by omega) (by omega)
      refine ⟨_, rfl, x, c.Net, dx, _, _, rfl, (Same.trans s1 s2) _ _ a1, T.cl_Net, T.a_Net_size, nf_size _ _ _, .inr ⟨(n : Int), rfl, log_small (by omega) (by omega), _, rfl, ?_, _, rfl, ?_, ?_⟩⟩
      · rw [Fs.len_app, sizeLine_eq]; show 0 + _ ≤ _; omega
      · rw [Fs.len_app, Fs.len_app, sizeLine_eq]; show 0 + _ + 1 ≤ _; omega
      have short : ∀ x ∈ ws, x.length ≤ 6 := fun x hx => by
        have hm : tl x ∈ ts.map fun p => 32 :: Tx.tw p := by rw [← ew]; exact List.mem_map.mpr ⟨x, hx, rfl⟩
        obtain ⟨p, hp, e⟩ := List.mem_map.mp hm
        rw [len_tl, ← e]
        exact word_len (N.tie p hp) (by omega)
      have sum := sum_le short
      have lj : (Txt.join (Str.ofString "") ws).length ≤ 6000 := by
        rw [len_tl, join_eq, tl_join, show tl (Str.ofString "") = [] from rfl, Fs.join_nil, flat_len, List.map_map]
        have : (ws.map (List.length ∘ tl)) = ws.map (·.length) := List.map_congr_left fun x _ => (len_tl x).symm
        rw [this]; omega
      refine ⟨⟨_, rfl⟩, _, rfl, _, D, ws, rfl, rfl, .inl (SqL.of hD2), ?_, ⟨_, _, rfl, rfl, ?_, ?_⟩⟩
      · show _ + ws.length * 0 ≤ _; omega
      · rw [Fs.len_app, Fs.len_app, sizeLine_eq]; show 0 + _ + 1 + _ ≤ _; omega
      · refine q _ H2 (Same.trans s1 s2) ?_
        rw [tl_append, tl_append, tl_append, tl_int (by omega), join_eq, tl_join, show tl (Str.ofString "") = [] from rfl, Fs.join_nil, ew]
        unfold Tx.txt Tx.tail
        rw [show tl Str.empty = [] from rfl, List.nil_append, List.append_assoc, List.flatMap_def]; rfl
end
end Od

namespace Od
open PySem PySem.Spec PyProof.Rows L2 TL
theorem fig_iff {k : Nat} : k ∈ (Str.ofString "0123456789").cps.toList ↔ 48 ≤ k ∧ k ≤ 57 := by
  have e : (Str.ofString "0123456789").cps.toList = [48, 49, 50, 51, 52, 53, 54, 55, 56, 57] := by decide +kernel
  rw [e]
  simp only [List.mem_cons, List.not_mem_nil, or_false]
  omega
theorem part_tie (w : Str) : Tx.numIn (tl (Txt.partition w (Str.ofString "-")).1) = (Tx.tieIn (tl w)).1 ∧ Tx.numIn (tl (Txt.partition w (Str.ofString "-")).2.2) = (Tx.tieIn (tl w)).2 ∧
    (Txt.partition w (Str.ofString "-")).1.length ≤ w.length ∧ (Txt.partition w (Str.ofString "-")).2.2.length ≤ w.length := by
  have ey : tl (Str.ofString "-") = [45] := by decide +kernel
  rw [partition_par w (Str.ofString "-") (by rw [ey]; simp), ey]
  unfold Tx.tieIn
  cases e : par [45] [] (tl w) with
  | none => exact ⟨rfl, rfl, Nat.le_refl _, Nat.zero_le _⟩
  | some ab =>
    obtain ⟨a, b⟩ := ab
    obtain ⟨u, e1, e2, _⟩ := Tx.par_back 45 _ _ _ _ e
    have l := congrArg List.length e2
    rw [List.length_append, List.length_cons] at l
    rw [List.nil_append] at e1
    refine ⟨rfl, rfl, ?_, ?_⟩
    · rw [len_tl, len_tl]; show a.length ≤ _; rw [e1]; omega
    · rw [len_tl, len_tl]; show b.length ≤ _; omega
section
variable {P : Program} {w : World} {K : PySem.W.Frag} {mg : Str → Option Value} {c : Cs} {base : Heap}
theorem ok_number_in (T : Top K mg c) : Fd.Has P w K mg base CX0 1 "number_in" ["word"] spNumIn := by
  obtain ⟨tk2, hk_MOST_FIGURES⟩ := T.k_MOST_FIGURES
  obtain ⟨tkF, hk_FIGURES⟩ := T.k_FIGURES
  refine T.d_number_in.ok sc_number_in (fun vs H Q E h => ?_) (fun f cdv A outer s H vs Q E hr h => ?_)
  · obtain ⟨w, rfl, _⟩ := h; rfl
  · obtain ⟨wd, rfl, lw, q⟩ := h
    have lt := len_tl wd
    refine ⟨_, (pss_cons (ps_if (PW.pt (pw_or (pt_cmpR op_eq (pe_callB call_len_str (by rfl) T.n_len boot_len (pa_cons (pv 0) pa_nil)) pe_int (nomark _)) (pw_or1 (pt_cmpR op_gt (pe_callB call_len_str (by rfl) T.n_len boot_len (pa_cons (pv 0) pa_nil)) (pe_glob (v := .int 2) (by rfl) hk_MOST_FIGURES ⟨_, rfl⟩) (nomark _)))))
      (pss_one (ps_ret pe_non))
      pss_nil)
      (pss_cons (ps_for PassesOwn.never rfl (pi_str (pv 0)) (pg_name (i := 1) sc_number_in.nd rfl (Or.inl rfl))
      (pss_one (ps_if (pt_cmpR op_notIn_sign (pv 1) (pe_glob (v := .str "0123456789") (by rfl) hk_FIGURES ⟨_, rfl⟩) (by rfl))
        (pss_one (ps_ret pe_non))
        pss_nil)))
      (pss_one (ps_ret (pe_callTy call_int_str (by rfl) T.n_int boot_int (pa_cons (pv 0) pa_nil)))))), ?_⟩
    refine ⟨_, rfl, wd, rfl, by rw [sizeLine_eq]; omega, rfl, _, rfl, ?_⟩
    rw [vint]
    by_cases c0 : (tl wd).length = 0
    · rw [decide_eq_true (by omega)]
      refine iteT (iteT ?_)
      rw [show Tx.numIn (tl wd) = none by unfold Tx.numIn; rw [if_pos (.inl c0)]] at q
      exact q
    rw [decide_eq_false (by omega)]
    refine iteF ⟨_, rfl, wd, rfl, by rw [sizeLine_eq]; omega, _, _, rfl, rfl, _, rfl, ?_⟩
    by_cases c2 : 2 < (tl wd).length
    · rw [decide_eq_true (by omega)]
      refine iteT ?_
      rw [show Tx.numIn (tl wd) = none by unfold Tx.numIn; rw [if_pos (.inr (.inl c2))]] at q
      exact q
    rw [decide_eq_false (by omega)]
    refine iteF ?_
    refine tnx ?_
    dsimp only
    refine ⟨_, rfl, wd, rfl, Fs.for_str (x := wd) (fun i σ H' => ∃ v1, σ = [some (.str wd), v1] ∧ H' = H ∧ ∀ c ∈ (tl wd).take i, 48 ≤ c ∧ c ≤ 57) ⟨none, rfl, rfl, fun c hc => by rw [List.take_zero] at hc; cases hc⟩ ?_ ?_⟩
    · rintro i k σ H' hk ⟨v1, rfl, rfl, dg⟩
      have hk' : (tl wd)[i]? = some k := hk
      have tk : (tl wd).take (i + 1) = (tl wd).take i ++ [k] := by rw [List.take_succ, hk']; rfl
      dsimp only [gName]
      refine ⟨_, rfl, k, _, rfl, rfl, _, rfl, ?_⟩
      by_cases ck : 48 ≤ k ∧ k ≤ 57
      · rw [decide_eq_true (fig_iff.mpr ck)]
        refine iteF ⟨_, rfl, rfl, fun c hc => ?_⟩
        rw [tk] at hc
        rcases List.mem_append.mp hc with z | z
        · exact dg c z
        · rw [List.mem_singleton.mp z]; exact ck
      · rw [decide_eq_false fun z => ck (fig_iff.mp z)]
        refine iteT ?_
        have nd : Tx.digB (tl wd) = false := by
          rw [Bool.eq_false_iff]
          exact fun z => ck (Tx.digB_iff.mp z k (List.mem_of_getElem? hk'))
        rw [show Tx.numIn (tl wd) = none by unfold Tx.numIn; rw [if_pos (.inr (.inr nd))]] at q
        exact q
    · rintro σ H' ⟨v1, rfl, rfl, dg⟩
      have dg : ∀ c ∈ tl wd, 48 ≤ c ∧ c ≤ 57 := by
        have e : (tl wd).take wd.cps.toList.length = tl wd := List.take_length
        rw [e] at dg; exact dg
      have it := intText_digits (x := wd) dg (fun z => c0 (List.length_eq_zero_iff.mpr z)) (by omega)
      refine ⟨_, rfl, wd, _, rfl, it, by omega, ?_⟩
      rw [show Tx.numIn (tl wd) = some (NumText.digitsVal (tl wd)) by
        unfold Tx.numIn
        rw [if_neg]
        rintro (z | z | z)
        · exact c0 z
        · exact c2 z
        · rw [Tx.digB_iff.mpr dg] at z; cases z] at q
      exact q
theorem ok_tie_in (T : Top K mg c) : Fd.Has P w K mg base CX0 2 "tie_in" ["word"] spTieIn := by
  have G_number_in : Fd.Has P w K mg base CX0 1 "number_in" ["word"] spNumIn := ok_number_in T
  refine T.d_tie_in.ok sc_tie_in (fun vs H Q E h => ?_) (fun f cdv A outer s H vs Q E hr h => ?_)
  · obtain ⟨w, rfl, _⟩ := h; rfl
  · obtain ⟨wd, rfl, lw, q⟩ := h
    have hr_number_in := hr
    refine ⟨_, (pss_cons (ps_asg (pe_partition (pv 0) pe_str) (pg_tup rfl (pgs_cons (pg_name (i := 1) sc_tie_in.nd rfl (Or.inl rfl)) (pgs_cons (pg_name (i := 2) sc_tie_in.nd rfl (Or.inl rfl)) (pgs_cons (pg_name (i := 3) sc_tie_in.nd rfl (Or.inl rfl)) pgs_nil)))))
      (pss_one (ps_ret (pe_tup (pa_cons (Fd.pe_f G_number_in hr_number_in (by rfl) (pa_cons (pv 1) pa_nil)) (pa_cons (Fd.pe_f G_number_in hr_number_in (by rfl) (pa_cons (pv 3) pa_nil)) pa_nil)))))), ?_⟩
    obtain ⟨e1, e2, l1, l2⟩ := part_tie wd
    refine ⟨_, rfl, ⟨_, rfl⟩, _, _, rfl, rfl, by decide +kernel, by rw [sizeLine_eq]; omega, fun p hp => ?_⟩
    generalize Txt.partition wd (Str.ofString "-") = A3 at e1 e2 l1 l2 ⊢
    obtain ⟨a1, a2, a3⟩ := A3
    simp only at e1 e2 l1 l2
    have s1 : Same H (upd H p (.tup [.str a1, .str a2, .str a3])) := Same.new hp
    have ep : upd H p (.tup [.str a1, .str a2, .str a3]) p = some (.tup [.str a1, .str a2, .str a3]) := upd_same
    show gTup K _ _ (.ref p) _ (upd H p (.tup [.str a1, .str a2, .str a3])) _
    generalize upd H p (.tup [.str a1, .str a2, .str a3]) = H1 at s1 ep ⊢
    refine ⟨p, _, rfl, SqT.of ep, rfl, _, _, rfl, _, _, rfl, _, _, rfl, rfl, ?_⟩
    refine ⟨_, rfl, a1, rfl, by omega, _, rfl, a3, rfl, by omega, (by show 2 ≤ sizeLine; decide), fun t ht => ?_⟩
    rw [e1, e2]
    exact q t _ (s1.free ht) (Same.trans s1 (Same.new ht)) upd_same
end
end Od

namespace Od
open PySem PySem.Spec PyProof.Rows L2 TL
/-- us are tuples of two numbers or None -/
def Tps (H : Hp) (us : List V) (ks : List (Option Nat × Option Nat)) : Prop := Paired (fun u (x : Option Nat × Option Nat) => ∃ a, u = V.ref a ∧ H a = some (.tup [numV x.1, numV x.2])) us ks
theorem Tps.ex {H H' : Hp} (e : Same H H') : ∀ {us : List V} {ks : List (Option Nat × Option Nat)}, Tps H us ks → Tps H' us ks
  | _, _, .nil => .nil
  | _, _, .cons ⟨a, h1, h2⟩ t => .cons ⟨a, h1, e _ _ h2⟩ (Tps.ex e t)
theorem Tps.tups {H H2 : Hp} (k : ∀ a xs, H a = some (.tup xs) → H2 a = some (.tup xs)) : ∀ {us : List V} {ks : List (Option Nat × Option Nat)}, Tps H us ks → Tps H2 us ks
  | _, _, .nil => .nil
  | _, _, .cons ⟨a, h1, h2⟩ t => .cons ⟨a, h1, k _ _ h2⟩ (Tps.tups k t)
theorem Tps.len {H : Hp} {us : List V} {ks : List (Option Nat × Option Nat)} (h : Tps H us ks) : us.length = ks.length := Paired.length h
theorem Tps.snoc {H : Hp} {us : List V} {ks : List (Option Nat × Option Nat)} {a : Addr} {x : Option Nat × Option Nat} (h : Tps H us ks) (ha : H a = some (.tup [numV x.1, numV x.2])) : Tps H (us ++ [.ref a]) (ks ++ [x]) := by
  induction h with
  | nil => exact .cons ⟨a, rfl, ha⟩ .nil
  | cons r _ ih => exact .cons r ih
theorem Tps.mem {H : Hp} : ∀ {us : List V} {ks : List (Option Nat × Option Nat)}, Tps H us ks → ∀ y ∈ us, ∃ x ∈ ks, ∃ a, y = V.ref a ∧ H a = some (.tup [numV x.1, numV x.2])
  | _, _, .nil, y, h => by cases h
  | _, _, .cons r t, y, h => by
    rcases List.mem_cons.mp h with rfl | h
    · exact ⟨_, List.mem_cons_self, r⟩
    · obtain ⟨x, hx, q⟩ := Tps.mem t y h
      exact ⟨x, List.mem_cons_of_mem _ hx, q⟩
theorem numV_kd {H : Hp} (k : Option Nat) : ∃ t, Kd H (numV k) t := by
  cases k with
  | none => exact ⟨_, .non⟩
  | some k => exact ⟨_, .int _⟩
theorem Tps.kt {H : Hp} {us : List V} {ks : List (Option Nat × Option Nat)} (h : Tps H us ks) : ∀ y ∈ us, ∃ u, Kt H y u := fun y hy => by
  obtain ⟨x, _, a, rfl, e⟩ := h.mem y hy
  refine ⟨.tuple, .tup e, fun xs q z hz => ?_⟩
  rw [tupOf_tup e] at q
  cases q
  simp only [List.mem_cons, List.not_mem_nil, or_false] at hz
  rcases hz with rfl | rfl
  · exact numV_kd _
  · exact numV_kd _
/-- those of a net's ties -/
theorem Tps.prs {H : Hp} : ∀ {us : List V} {ts : List Pr}, (∀ p ∈ ts, 0 ≤ p.1 ∧ 0 ≤ p.2) → Tps H us (ts.map fun p => (some p.1.toNat, some p.2.toNat)) → Prs H us ts
  | us, [], _, h => by cases h; exact .nil
  | us, p :: ts, hp, h => by
    cases h with
    | cons r t =>
      obtain ⟨a, e1, e2⟩ := r
      obtain ⟨h1, h2⟩ := hp p List.mem_cons_self
      refine .cons ⟨a, e1, ?_⟩ (Tps.prs (fun q hq => hp q (List.mem_cons_of_mem _ hq)) t)
      rw [e2]
      show some (HO.tup [V.int ((p.1.toNat : Nat) : Int), V.int ((p.2.toNat : Nat) : Int)]) = _
      rw [show ((p.1.toNat : Nat) : Int) = p.1 by omega, show ((p.2.toNat : Nat) : Int) = p.2 by omega]
theorem can_up {n : Nat} {ts : List Pr} (C : Tx.Can n ts) : ts.Pairwise plt := C.up
theorem can_tie {n : Nat} {ts : List Pr} (C : Tx.Can n ts) : ∀ p ∈ ts, Tie (n : Int) p := C.tie
theorem can_net {C : Addr} {H : Hp} {x : Addr} {n : Nat} {ts : List Pr} (N : NetAt C H x n ts) : Tx.Can n ts := ⟨N.lo, N.hi, N.tie, N.up⟩
theorem part_size (w : Str) : Tx.numIn (tl (Txt.partition w (Str.ofString ":")).1) = (Tx.rdp (tl w)).1 ∧ ((spl [32] 0 [] (tl (Txt.partition w (Str.ofString ":")).2.2)).drop 1).map Tx.tieIn = (Tx.rdp (tl w)).2 ∧
    (Txt.partition w (Str.ofString ":")).1.length ≤ w.length ∧ (Txt.partition w (Str.ofString ":")).2.2.length ≤ w.length := by
  have ey : tl (Str.ofString ":") = [58] := by decide +kernel
  rw [partition_par w (Str.ofString ":") (by rw [ey]; simp), ey]
  unfold Tx.rdp
  cases e : par [58] [] (tl w) with
  | none => exact ⟨rfl, rfl, Nat.le_refl _, Nat.zero_le _⟩
  | some ab =>
    obtain ⟨a, b⟩ := ab
    obtain ⟨u, e1, e2, _⟩ := Tx.par_back 58 _ _ _ _ e
    have l := congrArg List.length e2
    rw [List.length_append, List.length_cons] at l
    rw [List.nil_append] at e1
    refine ⟨rfl, rfl, ?_, ?_⟩
    · rw [len_tl, len_tl]; show a.length ≤ _; rw [e1]; omega
    · rw [len_tl, len_tl]; show b.length ≤ _; omega
theorem split_tl (w : Str) : (Txt.split w (Str.ofString " ")).map tl = spl [32] 0 [] (tl w) := by
  have ey : tl (Str.ofString " ") = [32] := by decide +kernel
  have h := split_spl w (Str.ofString " ") (by rw [ey]; simp) (kind_ok (by decide +kernel))
  rw [ey] at h; exact h
theorem spl_len (S : List Nat) : ∀ (k : Nat) (acc l : List Nat), (spl S k acc l).length ≤ l.length + 1
  | k, acc, [] => by rw [spl_nil]; exact Nat.le_refl _
  | 0, acc, c :: r => by
    by_cases h : pre S (c :: r) = true
    · rw [spl_hit h, List.length_cons, List.length_cons]
      have := spl_len S (S.length - 1) [] r; omega
    · rw [spl_miss (Bool.eq_false_iff.mpr h), List.length_cons]
      have := spl_len S 0 (acc ++ [c]) r; omega
  | k + 1, acc, _ :: r => by
    show (spl S k acc r).length ≤ _
    have := spl_len S k acc r
    rw [List.length_cons]; omega
/-- the parts of a text are no longer than it is -/
theorem spl_part_len (S : List Nat) : ∀ (k : Nat) (acc l : List Nat), ∀ p ∈ spl S k acc l, p.length ≤ acc.length + l.length
  | k, acc, [], p, h => by
    rw [spl_nil, List.mem_singleton] at h
    rw [h]; exact Nat.le_refl _
  | 0, acc, c :: r, p, h => by
    by_cases hc : pre S (c :: r) = true
    · rw [spl_hit hc] at h
      rcases List.mem_cons.mp h with rfl | h
      · omega
      · have := spl_part_len S _ _ _ p h
        rw [List.length_nil] at this
        rw [List.length_cons]; omega
    · rw [spl_miss (Bool.eq_false_iff.mpr hc)] at h
      have := spl_part_len S _ _ _ p h
      rw [List.length_append, List.length_singleton] at this
      rw [List.length_cons]; omega
  | k + 1, acc, _ :: r, p, h => by
    have := spl_part_len S k acc r p h
    rw [List.length_cons]; omega
def spRead (C B : Addr) : Sp := fun vs H Q E => ∃ (y : V) (t : Ty), vs = [y] ∧ Kd H y t ∧ (∀ z, y = .str z → z.length ≤ 100000) ∧
  ((∃ (z : Str) (n : Nat) (ts : List Pr), y = .str z ∧ Tx.Can n ts ∧ tl z = Tx.txt n ts ∧ ∀ (x : Addr) (H' : Hp), Same H H' → NetAt C H' x n ts → Q (.ref x) H') ∨
   ((∀ (z : Str) (n : Nat) (ts : List Pr), y = .str z → Tx.Can n ts → tl z ≠ Tx.txt n ts) ∧ ∀ H', Same H H' → E (.ref B) none H'))
theorem kit_str (t : Ty) : kitB t.nm "str" = some (decide (t = .str)) := by cases t <;> decide +kernel
section
variable {P : Program} {w : World} {K : PySem.W.Frag} {mg : Str → Option Value} {c : Cs} {base : Heap}
theorem ok_read (T : Top K mg c) : Fd.Has P w K mg base (L2N.CX P w) 8 "read" ["line"] (spRead c.Net c.BadNet) := by
  have G_Net : Fd.IHas P w K mg base (L2N.CX P w) 6 c.Net ["self", "size", "ties"] (spInit c.Net c.BadNet) := ok_init T
  have G_number_in : Fd.Has P w K mg base CX0 1 "number_in" ["word"] spNumIn := ok_number_in T
  have G_tie_in : Fd.Has P w K mg base CX0 2 "tie_in" ["word"] spTieIn := ok_tie_in T
  have G_shown : Fd.Has P w K mg base CX0 2 "shown" ["net"] (spShown c.Net) := ok_shown T
  refine T.d_read.okN sc_read (fun vs H Q E h => ?_) (fun f cdv A outer s H vs Q E hr h => ?_)
  · obtain ⟨y, t, rfl, _⟩ := h; rfl
  · obtain ⟨y, t, rfl, ky, ly, hres⟩ := h
    have hr_Net := hr
    have hr_number_in := hr.mono (show 1 ≤ 7 by decide)
    have hr_tie_in := hr.mono (show 2 ≤ 7 by decide)
    have hr_shown := hr.mono (show 2 ≤ 7 by decide)
    refine ⟨_, (pss_cons (ps_if (pt_not (pt_val (pe_callB (r := rIsi K) call_isi (by rfl) T.n_isinstance boot_isinstance (pa_cons (pv 0) (pa_cons (pe_bltn (v := .ty "str") (by rfl) T.n_str boot_str rfl) pa_nil)))))
      (pss_one (L2N.ps_raise rfl (L2N.takes_of rfl rfl rfl rfl) (L2N.pmk_own PySem.F.excBase_ValueError T.e_BadNet.x T.e_BadNet.c T.e_BadNet.p (raises_own T.e_BadNet.b T.e_BadNet.t) (by rfl))))
      pss_nil)
      (pss_cons (ps_asg (pe_partition (pv 0) pe_str) (pg_tup rfl (pgs_cons (pg_name (i := 1) sc_read.nd rfl (Or.inl rfl)) (pgs_cons (pg_name (i := 2) sc_read.nd rfl (Or.inl rfl)) (pgs_cons (pg_name (i := 3) sc_read.nd rfl (Or.inl rfl)) pgs_nil)))))
      (pss_cons (ps_set (i := 4) sc_read.nd rfl (Or.inl rfl) (Fd.pe_mk G_Net hr_Net (by rfl) T.c_Net (L2N.passes_call (L2N.takes_of rfl rfl rfl rfl) fun _ _ _ _ h => h) (pa_cons (Fd.pe_f G_number_in hr_number_in (by rfl) (pa_cons (pv 1) pa_nil)) (pa_cons (pe_lc (own := [("word", 5)]) (g := gName 5) rfl sc_read.nd (pi_list (pe_slice sl_list (pe_split (pv 3) pe_str) (po_some pe_int) po_none)) (blkOk_by (own := [("word", 5)]) (N := N_read) (sc := defScope S_read) (by decide +kernel)) (fun _ _ _ _ _ => pg_name (i := 5) sc_read.nd rfl (Or.inl rfl)) (fun _ _ _ _ _ => pts_nil) (fun _ _ _ _ _ => (Fd.pe_f G_tie_in hr_tie_in (by rfl) (pa_cons (pv 5) pa_nil)))) pa_nil))))
      (pss_cons (ps_if (pt_cmpR op_ne (Fd.pe_f G_shown hr_shown (by rfl) (pa_cons (pv 4) pa_nil)) (pv 0) (nomark _))
      (pss_one (L2N.ps_raise rfl (L2N.takes_of rfl rfl rfl rfl) (L2N.pmk_own PySem.F.excBase_ValueError T.e_BadNet.x T.e_BadNet.c T.e_BadNet.p (raises_own T.e_BadNet.b T.e_BadNet.t) (by rfl))))
      pss_nil)
      (pss_one (ps_ret (pv 4))))))), ?_⟩
    refine ⟨_, rfl, _, _, _, _, _, rfl, ClsV.ty _, ky.tyx, kit_ty (kit_str t), _, rfl, ?_⟩
    by_cases ct : t = .str
    rotate_left
    · rw [decide_eq_false ct]
      refine iteT ?_
      rcases hres with ⟨z, n, ts, rfl, _⟩ | ⟨_, q⟩
      · cases ky; exact absurd rfl ct
      · exact q H (Same.refl H)
    subst ct
    obtain ⟨z, rfl⟩ : ∃ z, y = .str z := by cases ky; exact ⟨_, rfl⟩
    have lz := ly z rfl
    rw [decide_eq_true rfl]
    refine iteF ?_
    obtain ⟨e1, e2, l1, l2⟩ := part_size z
    refine tnx ?_
    dsimp only
    refine ⟨_, rfl, ⟨_, rfl⟩, _, _, rfl, rfl, by decide +kernel, by rw [sizeLine_eq]; omega, fun p hp => ?_⟩
    generalize Txt.partition z (Str.ofString ":") = A3 at e1 e2 l1 l2 ⊢
    obtain ⟨a1, a2, a3⟩ := A3
    simp only at e1 e2 l1 l2
    have s1 : Same H (upd H p (.tup [.str a1, .str a2, .str a3])) := Same.new hp
    have ep : upd H p (.tup [.str a1, .str a2, .str a3]) p = some (.tup [.str a1, .str a2, .str a3]) := upd_same
    show gTup K _ _ (.ref p) _ (upd H p (.tup [.str a1, .str a2, .str a3])) _
    generalize upd H p (.tup [.str a1, .str a2, .str a3]) = H1 at s1 ep ⊢
    refine ⟨p, _, rfl, SqT.of ep, rfl, _, _, rfl, _, _, rfl, _, _, rfl, rfl, ?_⟩
    refine tnx ?_
    dsimp only
    refine ⟨_, rfl, a1, rfl, by omega, ?_⟩
    rw [e1]
    refine ⟨_, rfl, ⟨_, rfl⟩, _, _, rfl, rfl, by decide +kernel, by rw [sizeLine_eq]; omega, fun p1 hp1 => ?_⟩
    have sp := split_tl a3
    generalize Txt.split a3 (Str.ofString " ") = ws at sp ⊢
    have lws : ws.length ≤ 100001 := by
      have h := congrArg List.length sp
      rw [List.length_map] at h
      have h2 := spl_len [32] 0 [] (tl a3)
      rw [← len_tl] at h2; omega
    have lword : ∀ x ∈ ws, x.length ≤ 100000 := fun x hx => by
      have h := spl_part_len [32] 0 [] (tl a3) (tl x) (by rw [← sp]; exact List.mem_map.mpr ⟨x, hx, rfl⟩)
      rw [← len_tl, ← len_tl, List.length_nil] at h; omega
    have s2 : Same H1 (upd H1 p1 (.lst (ws.map V.str))) := Same.new hp1
    have ep1 : upd H1 p1 (.lst (ws.map V.str)) p1 = some (.lst (ws.map V.str)) := upd_same
    generalize upd H1 p1 (.lst (ws.map V.str)) = H2 at s2 ep1 ⊢
    refine ⟨_, rfl, p1, _, rfl, SqL.of ep1, fun p2 hp2 => ?_⟩
    have cut : cutV (ws.map V.str) (some 1) none = (ws.drop 1).map V.str := by
      have h := Sl.cut_from (ws.map V.str) 1
      rw [List.map_drop]; exact h
    rw [cut]
    have s3 : Same H2 (upd H2 p2 (.lst ((ws.drop 1).map V.str))) := Same.new hp2
    have ep2 : upd H2 p2 (.lst ((ws.drop 1).map V.str)) p2 = some (.lst ((ws.drop 1).map V.str)) := upd_same
    generalize upd H2 p2 (.lst ((ws.drop 1).map V.str)) = H3 at s3 ep2 ⊢
    have s03 := Same.trans (Same.trans s1 s2) s3
    have ek : (ws.drop 1).map (fun x => Tx.tieIn (tl x)) = (Tx.rdp (tl z)).2 := by
      rw [← e2, ← sp, ← List.map_drop, List.map_map]; rfl
    have lword1 : ∀ x ∈ ws.drop 1, x.length ≤ 100000 := fun x hx => lword x (List.mem_of_mem_drop hx)
    have lws1 : (ws.drop 1).length ≤ 100001 := by rw [List.length_drop]; omega
    generalize ws.drop 1 = wt at ep2 ek lword1 lws1
    refine ⟨p2, rfl, ⟨_, SqL.of ep2⟩, fun D hD => ?_⟩
    refine lc_list (xs := wt.map V.str) (fun i Hc => ∃ us, Same H3 Hc ∧ Hc D = some (.lst us) ∧ Tps Hc us ((wt.take i).map fun x => Tx.tieIn (tl x))) ⟨[], Same.new hD, upd_same, .nil⟩ (fun i Hc _ ⟨_, e, _⟩ => SqL.of (e _ _ ep2)) ?_ ?_
    · rintro i y Hc hi ⟨us, s4, hDc, tp⟩
      rw [List.getElem?_map] at hi
      obtain ⟨x, hx, rfl⟩ := Option.map_eq_some_iff.mp hi
      have il := (List.getElem?_eq_some_iff.mp hx).1
      have lu := tp.len
      rw [List.length_map, List.length_take] at lu
      have tk : wt.take (i + 1) = wt.take i ++ [x] := by rw [List.take_succ, hx]; rfl
      refine ⟨rfl, tyes (iteT ⟨_, rfl, x, rfl, lword1 x (List.mem_of_getElem? hx), fun pt Hd hpt sd ept => ?_⟩)⟩
      have hDd := sd _ _ hDc
      refine ⟨us, hDd, by rw [sizeLine_eq]; omega, us ++ [.ref pt], Same.mut (Same.trans s4 sd) hD, upd_same, ?_⟩
      rw [tk, List.map_append]
      have kt : ∀ b xs, Hd b = some (.tup xs) → upd Hd D (.lst (us ++ [.ref pt])) b = some (.tup xs) := fun b xs e => by rw [upd_ne (ne_of e hDd (fun z => nomatch z))]; exact e
      exact ((tp.ex sd).tups kt).snoc (kt _ _ ept)
    rintro H4 ⟨us, s4, eD, tp⟩
    rw [List.length_map, List.take_length, ek] at tp
    have s04 := Same.trans s03 s4
    have klD : Kl H4 (.ref D) .list := kl_lst eD tp.kt
    obtain ⟨tz, ktz⟩ := numV_kd (H := H4) (Tx.rdp (tl z)).1
    intro x dx hx hdx ne
    refine ⟨H4, x, dx, _, _, tz, .list, rfl, fun b o e => by rw [upd_ne (ne_of_none e hx), upd_ne (ne_of_none e hdx)]; exact e, hx, upd_same, ktz, klD, ?_⟩
    -- what is a net's text makes the net
    have good : ∀ {n' : Nat} {ts' : List Pr}, Tx.Can n' ts' → tl z = Tx.txt n' ts' → Good H4 (numV (Tx.rdp (tl z)).1) (.ref D) n' ts' := fun {n' ts'} C e => by
      rw [e, C.rd] at tp ⊢
      have pr : Prs H4 us ts' := tp.prs fun p hp => by have := C.tie p hp; omega
      exact good_nd eD pr C.tie (plt_nodup C.up) C.lo C.hi
    by_cases g : ∃ n ps, Good H4 (numV (Tx.rdp (tl z)).1) (.ref D) n ps
    · obtain ⟨n, ps, g⟩ := g
      refine .inl ⟨n, ps, g, fun ts H5 pm s5 N => ⟨rfl, ?_⟩⟩
      have N5 : NetAt c.Net H5 x n ts := N.ex newp_same
      have s05 := Same.trans s04 s5
      refine tnx ?_
      dsimp only
      refine ⟨_, rfl, x, n, ts, rfl, N5, fun y2 H6 s6 ey => ?_⟩
      have s06 := Same.trans s05 s6
      refine ⟨_, rfl, rfl, _, rfl, ?_⟩
      by_cases cy : y2 = z
      · subst cy
        rw [decide_eq_true rfl]
        refine iteF ?_
        rcases hres with ⟨z', n', ts', ez, C', e', q⟩ | ⟨no, _⟩
        · cases ez
          obtain ⟨rfl, rfl⟩ := (can_net N5).inj C' (ey.symm.trans e')
          exact ⟨_, rfl, q x H6 s06 (N5.ex s6)⟩
        · exact absurd ey (no y2 n ts rfl (can_net N5))
      · rw [decide_eq_false (fun e => cy (by injection e))]
        refine iteT ?_
        rcases hres with ⟨z', n', ts', ez, C', e', _⟩ | ⟨_, q⟩
        · cases ez
          exfalso
          have g' := good C' e'
          obtain ⟨a1, _, _, xs1, b1, _, c1⟩ := g
          obtain ⟨a2, _, _, xs2, b2, _, c2⟩ := g'
          rw [a1] at a2
          injection a2 with a2
          obtain rfl : n = n' := by omega
          rw [b1] at b2
          cases b2
          rw [← c1] at c2
          subst c2
          have : ts = ts' := plt_one pm N5.up (can_up C')
          subst this
          exact cy (ext_tl (ey.trans e'.symm))
        · exact q H6 s06
    · refine .inr ⟨fun n ps z => g ⟨n, ps, z⟩, fun H5 s5 => ?_⟩
      rcases hres with ⟨z', n', ts', ez, C', e', _⟩ | ⟨_, q⟩
      · cases ez
        exact absurd ⟨n', ts', good C' e'⟩ g
      · exact q H5 (Same.trans s04 s5)
end
end Od

namespace Od
open PySem PySem.Spec PyProof.Rows L2 TL
theorem dig_at {d : Nat} (h : d < 10) : atI (Str.ofString "0123456789").cps.toList (d : Int) = some (48 + d) := by
  have e : (Str.ofString "0123456789").cps.toList = [48, 49, 50, 51, 52, 53, 54, 55, 56, 57] := by decide +kernel
  rw [e]
  have all : ∀ d : Nat, d < 10 → ([48, 49, 50, 51, 52, 53, 54, 55, 56, 57] : List Nat)[d]? = some (48 + d) := by decide
  exact atI_nat (all d h)
theorem one_sign (k : Nat) : tl (⟨#[k]⟩ : Str) = [k] := rfl
def spFig : Sp := fun vs H Q _ => ∃ k : Int, vs = [.int k] ∧ 0 ≤ k ∧ k < 100 ∧ ∀ y : Str, tl y = numL k.toNat → Q (.str y) H
def spTextL : Sp := fun vs H Q _ => ∃ (n : Nat) (l : Addr) (us : List V) (ts : List Pr), vs = [.int n, .ref l] ∧ n ≤ 40 ∧ H l = some (.lst us) ∧ Prs H us ts ∧ (∀ p ∈ ts, Tie n p) ∧ ts.length ≤ 800 ∧ ∀ (y : Str) (H' : Hp), Same H H' → tl y = Tx.txt n ts → Q (.str y) H'
def spNumL : Sp := fun vs H Q _ => ∃ w : Str, vs = [.str w] ∧ Q (numV (Tx.numO (tl w))) H
def spTieL : Sp := fun vs H Q _ => ∃ (w : Str) (m : Int), vs = [.str w, .int m] ∧ w.length ≤ 100000 ∧ (Tx.tieO (tl w) m = none → Q .non H) ∧ ∀ p, Tx.tieO (tl w) m = some p → ∀ t, H t = none → Q (.ref t) (upd H t (.tup [.int p.1, .int p.2]))
section
variable {P : Program} {w : World} {K : PySem.W.Frag} {mg : Str → Option Value} {c : Cs} {base : Heap}
theorem ok_fig (T : Top K mg c) : Fd.Has P w K mg base CX0 1 "_law_figures" ["_law_number_here"] spFig := by
  refine T.d__law_figures.ok sc__law_figures (fun vs H Q E h => ?_) (fun f cdv A outer s H vs Q E hr h => ?_)
  · obtain ⟨k, rfl, _⟩ := h; rfl
  · obtain ⟨k, rfl, k0, k1, q⟩ := h
    refine ⟨_, (pss_cons (ps_if (pt_cmpR op_lt (pv 0) pe_int (nomark _))
      (pss_one (ps_ret (pe_ix ix_str pe_str (pv 0) (fun _ _ => rfl))))
      pss_nil)
      (pss_one (ps_ret (pe_op op_add_str (pe_ix ix_str pe_str (pe_op op_fdiv (pv 0) pe_int) (fun _ _ => rfl)) (pe_ix ix_str pe_str (pe_op op_mod (pv 0) pe_int) (fun _ _ => rfl)))))), ?_⟩
    obtain ⟨d, rfl⟩ : ∃ d : Nat, k = (d : Int) := ⟨k.toNat, by omega⟩
    have e : (((d : Int)).toNat) = d := by omega
    rw [e] at q
    refine ⟨_, rfl, _, _, rfl, rfl, _, rfl, ?_⟩
    by_cases c : (d : Int) < 10
    · rw [decide_eq_true c]
      refine iteT ⟨_, rfl, _, _, _, rfl, rfl, (by show 10 ≤ sizeLine; decide), dig_at (by omega), q _ ?_⟩
      rw [numL_lt (by omega)]
    · rw [decide_eq_false c]
      refine iteF ?_
      have h1 : ((d / 10 : Nat) : Int) = (d : Int) / 10 := by omega
      have h2 : ((d % 10 : Nat) : Int) = (d : Int) % 10 := by omega
      refine ⟨_, rfl, _, _, rfl, rfl, ⟨by decide, by decide⟩, _, _, _, rfl, rfl, (by show 10 ≤ sizeLine; decide), by rw [← h1]; exact dig_at (by omega), ?_⟩
      refine ⟨_, rfl, _, _, rfl, rfl, (by show (0 : Int) < 10; decide), _, _, _, rfl, rfl, (by show 10 ≤ sizeLine; decide), by rw [← h2]; exact dig_at (by omega), ?_⟩
      refine ⟨_, _, rfl, rfl, (by show 1 + 1 ≤ sizeLine; decide), q _ ?_⟩
      rw [tl_append, numL_step (by omega), numL_lt (n := d / 10) (by omega), one_sign, one_sign]
theorem ok_textL (T : Top K mg c) : Fd.Has P w K mg base CX0 2 "_law_text" ["_law_size", "_law_ties"] spTextL := by
  have G__law_figures : Fd.Has P w K mg base CX0 1 "_law_figures" ["_law_number_here"] spFig := ok_fig T
  refine T.d__law_text.ok sc__law_text (fun vs H Q E h => ?_) (fun f cdv A outer s H vs Q E hr h => ?_)
  · obtain ⟨n, l, us, ts, rfl, _⟩ := h; rfl
  · obtain ⟨n, l, us, ts, rfl, n40, hl, pl, tie, few, q⟩ := h
    have hr__law_figures := hr
    have lus := pl.len
    refine ⟨_, (pss_cons (ps_set (i := 2) sc__law_text.nd rfl (Or.inl rfl) (pe_lst (pa_cons (pe_op op_add_str (Fd.pe_f G__law_figures hr__law_figures (by rfl) (pa_cons (pv 0) pa_nil)) pe_str) pa_nil)))
      (pss_cons (ps_for PassesOwn.never rfl (pi_list (pv 1)) (pg_tup rfl (pgs_cons (pg_name (i := 3) sc__law_text.nd rfl (Or.inl rfl)) (pgs_cons (pg_name (i := 4) sc__law_text.nd rfl (Or.inl rfl)) pgs_nil)))
      (pss_one (ps_expr (pe_bm PySem.F.plainAttrs_list PySem.F.slot_list_append PySem.F.type_list_append mt_append (pv 2) (pa_cons (pe_op op_add_str (pe_op op_add_str (Fd.pe_f G__law_figures hr__law_figures (by rfl) (pa_cons (pv 3) pa_nil)) pe_str) (Fd.pe_f G__law_figures hr__law_figures (by rfl) (pa_cons (pv 4) pa_nil))) pa_nil)))))
      (pss_one (ps_ret (pe_join pe_str (pv 2)))))), ?_⟩
    refine ⟨_, rfl, (n : Int), rfl, by omega, by omega, fun y ey => ?_⟩
    have ly := Tx.numL_small (k := n) (by omega)
    rw [show (((n : Nat) : Int).toNat) = n by omega] at ey
    have ly2 : y.length ≤ 2 := by rw [len_tl, ey]; exact ly
    refine ⟨_, _, rfl, rfl, (by rw [sizeLine_eq]; show y.length + 1 ≤ _; omega), (by show 1 ≤ sizeLine; decide), fun D hD => ?_⟩
    have s1 : Same H (upd H D (.lst [.str (y ++ Str.ofString ":")])) := Same.new hD
    have eD : upd H D (.lst [.str (y ++ Str.ofString ":")]) D = some (.lst (([y ++ Str.ofString ":"] : List Str).map V.str)) := upd_same
    generalize upd H D (.lst [.str (y ++ Str.ofString ":")]) = H1 at s1 eD ⊢
    refine tnx ?_
    dsimp only
    refine ⟨_, rfl, l, rfl, ⟨us, SqL.of (s1 _ _ hl)⟩, for_list (K := K) (a := l) (xs := us) (fun i σ H' => ∃ (v3 v4 : Option V) (ws : List Str), σ = [some (.int n), some (.ref l), some (.ref D), v3, v4] ∧ Same H H' ∧ H' D = some (.lst (ws.map V.str)) ∧ ws.map tl = (numL n ++ [58]) :: (ts.take i).map Tx.tw)
      ⟨none, none, [y ++ Str.ofString ":"], rfl, s1, eD, (by show [tl _] = [_]; rw [tl_append, ey]; rfl)⟩ (fun i σ H' _ ⟨_, _, _, _, e, _⟩ => SqL.of (e _ _ hl)) ?_ ?_⟩
    · rintro i v σ H2 hi ⟨v3, v4, ws, rfl, s2, hD2, ew⟩
      obtain ⟨z, b, hz, rfl, hb⟩ := pl.get hi
      have il := (List.getElem?_eq_some_iff.mp hz).1
      obtain ⟨t1, t2, t3⟩ := tie z (List.mem_of_getElem? hz)
      have tk : ts.take (i + 1) = ts.take i ++ [z] := by rw [List.take_succ, hz]; rfl
      have lw := congrArg List.length ew
      rw [List.length_map, List.length_cons, List.length_map, List.length_take] at lw
      refine ⟨b, _, rfl, SqT.of (s2 _ _ hb), rfl, _, _, rfl, _, _, rfl, rfl, ?_⟩
      refine ⟨_, rfl, .inl ⟨rfl, _, SqL.of hD2⟩, _, rfl, z.1, rfl, by omega, by omega, fun y1 e1 => ?_⟩
      have l1 : y1.length ≤ 2 := by rw [len_tl, e1]; exact Tx.numL_small (by omega)
      refine ⟨_, _, rfl, rfl, (by rw [sizeLine_eq]; show y1.length + 1 ≤ _; omega), _, rfl, z.2, rfl, by omega, by omega, fun y2 e2 => ?_⟩
      have l2 : y2.length ≤ 2 := by rw [len_tl, e2]; exact Tx.numL_small (by omega)
      refine ⟨_, _, rfl, rfl, (by rw [sizeLine_eq, Fs.len_app]; show y1.length + 1 + y2.length ≤ _; omega), ?_⟩
      refine ⟨D, _, _, rfl, rfl, hD2, by rw [List.length_map, sizeLine_eq]; omega, ?_⟩
      refine ⟨_, _, ws ++ [y1 ++ Str.ofString "-" ++ y2], rfl, Same.mut s2 hD, by rw [upd_same, List.map_append]; rfl, ?_⟩
      rw [List.map_append, ew, tk, List.map_append, List.cons_append]
      congr 2
      show [tl _] = [Tx.tw z]
      rw [tl_append, tl_append, e1, e2]
      unfold Tx.tw
      rw [List.append_assoc]; rfl
    · rintro σ H2 ⟨v3, v4, ws, rfl, s2, hD2, ew⟩
      rw [lus, List.take_length] at ew
      have lw := congrArg List.length ew
      rw [List.length_map, List.length_cons, List.length_map] at lw
      have short : ∀ x ∈ ws, x.length ≤ 6 := fun x hx => by
        have hm : tl x ∈ (numL n ++ [58]) :: ts.map Tx.tw := by rw [← ew]; exact List.mem_map.mpr ⟨x, hx, rfl⟩
        rw [len_tl]
        rcases List.mem_cons.mp hm with e | hm
        · rw [e, List.length_append, List.length_singleton]; omega
        · obtain ⟨p, hp, e⟩ := List.mem_map.mp hm
          have h1 := word_len (tie p hp) (by omega)
          rw [List.length_cons] at h1
          rw [← e]; omega
      have sum := sum_le short
      refine ⟨⟨_, rfl⟩, _, rfl, _, D, ws, rfl, rfl, .inl (SqL.of hD2), (by show _ + ws.length * 1 ≤ _; omega), q _ H2 s2 ?_⟩
      rw [join_eq, tl_join, ew, Tx.txt_join, show tl (Str.ofString " ") = [32] by decide +kernel]
theorem ok_numL (T : Top K mg c) : Fd.Has P w K mg base CX0 2 "_law_number" ["_law_word"] spNumL := by
  have G__law_figures : Fd.Has P w K mg base CX0 1 "_law_figures" ["_law_number_here"] spFig := ok_fig T
  refine T.d__law_number.ok sc__law_number (fun vs H Q E h => ?_) (fun f cdv A outer s H vs Q E hr h => ?_)
  · obtain ⟨wd, rfl, _⟩ := h; rfl
  · obtain ⟨wd, rfl, q⟩ := h
    have hr__law_figures := hr
    refine ⟨_, (pss_cons (ps_for PassesOwn.never rfl (pi_range1 (by rfl) T.n_range (pa_cons pe_int pa_nil)) (pg_name (i := 1) sc__law_number.nd rfl (Or.inl rfl))
      (pss_one (ps_if (pt_cmpR op_eq (Fd.pe_f G__law_figures hr__law_figures (by rfl) (pa_cons (pv 1) pa_nil)) (pv 0) (nomark _))
        (pss_one (ps_ret (pv 1)))
        pss_nil)))
      (pss_one (ps_ret pe_non))), ?_⟩
    refine ⟨_, rfl, by decide, by decide, for_range (lo := 0) (n := (100 : Int).toNat) (fun i σ H' => ∃ v1, σ = [some (.str wd), v1] ∧ H' = H ∧ ∀ k, k < i → numL k ≠ tl wd) ⟨none, rfl, rfl, fun k hk => absurd hk (Nat.not_lt_zero _)⟩ ?_ ?_⟩
    · rintro i σ H' hi ⟨v1, rfl, rfl, no⟩
      have hi : i < 100 := hi
      rw [show (0 : Int) + (i : Int) = (i : Int) from Int.zero_add _]
      dsimp only [gName]
      refine ⟨_, rfl, (i : Int), rfl, by omega, by omega, fun y ey => ?_⟩
      rw [show (((i : Nat) : Int).toNat) = i by omega] at ey
      refine ⟨_, rfl, rfl, _, rfl, ?_⟩
      by_cases cy : y = wd
      · subst cy
        rw [decide_eq_true rfl]
        refine iteT ?_
        rw [Tx.numO_some.mpr ⟨hi, ey.symm⟩] at q
        exact ⟨_, rfl, q⟩
      · rw [decide_eq_false (fun e => cy (by injection e))]
        refine iteF ⟨_, rfl, rfl, fun k hk => ?_⟩
        by_cases c : k = i
        · subst c
          rw [← ey]; exact fun e => cy (ext_tl e)
        · exact no k (by omega)
    · rintro σ H' ⟨v1, rfl, rfl, no⟩
      rw [Tx.numO_none.mpr no] at q
      exact q
theorem ok_tieL (T : Top K mg c) : Fd.Has P w K mg base CX0 3 "_law_tie" ["_law_word", "_law_size"] spTieL := by
  have G__law_number : Fd.Has P w K mg base CX0 2 "_law_number" ["_law_word"] spNumL := ok_numL T
  refine T.d__law_tie.ok sc__law_tie (fun vs H Q E h => ?_) (fun f cdv A outer s H vs Q E hr h => ?_)
  · obtain ⟨wd, m, rfl, _⟩ := h; rfl
  · obtain ⟨wd, m, rfl, lw, q1, q2⟩ := h
    have hr__law_number := hr
    refine ⟨_, (pss_cons (ps_set (i := 2) sc__law_tie.nd rfl (Or.inl rfl) (pe_m1 F.slot_str_find F.type_str_find mt_find (pv 0) pe_str))
      (pss_cons (ps_if (pt_cmpR op_lt (pv 2) pe_int (nomark _))
      (pss_one (ps_ret pe_non))
      pss_nil)
      (pss_cons (ps_set (i := 3) sc__law_tie.nd rfl (Or.inl rfl) (Fd.pe_f G__law_number hr__law_number (by rfl) (pa_cons (pe_slice sl_str (pv 0) po_none (po_some (pv 2))) pa_nil)))
      (pss_cons (ps_set (i := 4) sc__law_tie.nd rfl (Or.inl rfl) (Fd.pe_f G__law_number hr__law_number (by rfl) (pa_cons (pe_slice sl_str (pv 0) (po_some (pe_op op_add (pv 2) pe_int)) po_none) pa_nil)))
      (pss_cons (ps_if (PW.pt (pw_or (pt_cmpR op_isN (pv 3) pe_non (nomark _)) (pw_or (pt_cmpR op_isN (pv 4) pe_non (nomark _)) (pw_or1 (pt_not (pt_chain op_lt op_lt (pv 3) (pv 4) (pv 1)))))))
      (pss_one (ps_ret pe_non))
      pss_nil)
      (pss_one (ps_ret (pe_tup (pa_cons (pv 3) (pa_cons (pv 4) pa_nil)))))))))), ?_⟩
    have ey : tl (Str.ofString "-") = [45] := by decide +kernel
    refine ⟨_, rfl, ⟨_, rfl⟩, _, _, rfl, rfl, ?_⟩
    dsimp only [gName]
    rcases Fs.find_par (x := wd) ey with ⟨e, ep⟩ | ⟨i, e, il, ep⟩
    · rw [e]
      refine ⟨_, rfl, _, _, rfl, rfl, _, rfl, ?_⟩
      rw [decide_eq_true (by decide)]
      refine iteT (q1 ?_)
      unfold Tx.tieO; rw [ep]
    · rw [e]
      refine ⟨_, rfl, _, _, rfl, rfl, _, rfl, ?_⟩
      rw [decide_eq_false (by omega)]
      refine iteF ?_
      refine tnx ?_
      dsimp only
      refine ⟨_, rfl, _, rfl, _, rfl, wd, rfl, by rw [sizeLine_eq]; omega, _, rfl, ?_⟩
      rw [Fs.cut_to]
      generalize hu : (tl wd).take i = u at ep
      refine tnx ?_
      dsimp only
      refine ⟨_, rfl, _, rfl, _, _, rfl, rfl, _, rfl, wd, rfl, by rw [sizeLine_eq]; omega, _, rfl, ?_⟩
      rw [show tl (cutS wd (some ((i : Int) + 1)) none) = (tl wd).drop (i + 1) from Fs.cut_from wd (i + 1)]
      generalize (tl wd).drop (i + 1) = v at ep
      dsimp only [gName]
      refine ⟨_, rfl, rfl, _, rfl, ?_⟩
      cases ea : Tx.numO u with
      | none =>
        rw [show decide (numV none = V.non) = true from rfl]
        refine iteT (iteT (q1 ?_))
        unfold Tx.tieO; rw [ep]; simp only [ea]
      | some a =>
        rw [show decide (numV (some a) = V.non) = false from rfl]
        refine iteF ⟨_, rfl, rfl, _, rfl, ?_⟩
        cases eb : Tx.numO v with
        | none =>
          rw [show decide (numV none = V.non) = true from rfl]
          refine iteT (iteT (q1 ?_))
          unfold Tx.tieO; rw [ep]; simp only [ea, eb]
        | some b =>
          rw [show decide (numV (some b) = V.non) = false from rfl]
          refine iteF ⟨_, rfl, _, rfl, (a : Int), (b : Int), rfl, rfl, _, rfl, ?_⟩
          have val : Tx.tieO (tl wd) m = if (a : Int) < b ∧ (b : Int) < m then some ((a : Int), (b : Int)) else none := by
            unfold Tx.tieO; rw [ep]; simp only [ea, eb]
          by_cases c1 : (a : Int) < b
          · rw [decide_eq_true c1]
            refine iteT ⟨_, rfl, _, _, rfl, rfl, _, rfl, ?_⟩
            by_cases c2 : (b : Int) < m
            · rw [decide_eq_true c2]
              refine iteF ?_
              rw [if_pos ⟨c1, c2⟩] at val
              exact ⟨_, rfl, _, rfl, (by show 2 ≤ sizeLine; decide), fun t ht => q2 _ val t ht⟩
            · rw [decide_eq_false c2]
              refine iteT (q1 ?_)
              rw [val, if_neg fun z => c2 z.2]
          · rw [decide_eq_false c1]
            refine iteF ⟨_, rfl, iteT (q1 ?_)⟩
            rw [val, if_neg fun z => c1 z.1]
end
end Od

namespace Od
open PySem PySem.Spec PyProof.Rows L2 TL
/-- what the law reads of the words -/
def OTs (H : Hp) (us : List V) (os : List (Option Pr)) : Prop := Paired (fun u (o : Option Pr) => match o with
  | none => u = V.non
  | some p => ∃ a, u = V.ref a ∧ H a = some (.tup [.int p.1, .int p.2])) us os
theorem OTs.tups {H H2 : Hp} (k : ∀ a xs, H a = some (.tup xs) → H2 a = some (.tup xs)) : ∀ {us : List V} {os : List (Option Pr)}, OTs H us os → OTs H2 us os
  | _, _, .nil => .nil
  | _, none :: _, .cons e t => .cons e (OTs.tups k t)
  | _, some p :: _, .cons r t => .cons (by obtain ⟨a, e, h⟩ := r; exact ⟨a, e, k _ _ h⟩) (OTs.tups k t)
theorem OTs.ex {H H' : Hp} (e : Same H H') {us : List V} {os : List (Option Pr)} (h : OTs H us os) : OTs H' us os := h.tups fun a xs q => e _ _ q
theorem OTs.len {H : Hp} {us : List V} {os : List (Option Pr)} (h : OTs H us os) : us.length = os.length := Paired.length h
theorem OTs.snocN {H : Hp} {us : List V} {os : List (Option Pr)} (h : OTs H us os) : OTs H (us ++ [.non]) (os ++ [none]) := by
  induction h with
  | nil => exact .cons rfl .nil
  | cons r _ ih => exact .cons r ih
theorem OTs.snocS {H : Hp} {us : List V} {os : List (Option Pr)} {a : Addr} {p : Pr} (h : OTs H us os) (e : H a = some (.tup [.int p.1, .int p.2])) : OTs H (us ++ [.ref a]) (os ++ [some p]) := by
  induction h with
  | nil => exact .cons ⟨a, rfl, e⟩ .nil
  | cons r _ ih => exact .cons r ih
theorem OTs.prs {H : Hp} : ∀ {us : List V} {ts : List Pr}, OTs H us (ts.map some) → Prs H us ts
  | _, [], h => by cases h; exact .nil
  | _, _ :: _, .cons r t => .cons r (OTs.prs t)
theorem some_all : ∀ {os : List (Option Pr)}, none ∉ os → ∃ ts : List Pr, os = ts.map some
  | [], _ => ⟨[], rfl⟩
  | none :: _, h => absurd List.mem_cons_self h
  | some p :: os, h => by
    obtain ⟨ts, e⟩ := some_all (os := os) fun z => h (List.mem_cons_of_mem _ z)
    exact ⟨p :: ts, by rw [e]; rfl⟩
def dO : Option Pr → PyData
  | none => .none
  | some p => dP p
theorem dpAll_ots {K : PySem.W.Frag} {H : Hp} : ∀ {us : List V} {os : List (Option Pr)}, OTs H us os → DpAll K H us (os.map dO)
  | _, _, .nil => .nil
  | _, none :: _, .cons e t => by
    subst e
    exact .cons .non (dpAll_ots t)
  | _, some p :: _, .cons r t => by
    obtain ⟨a, rfl, h⟩ := r
    exact .cons (.tup (SqT.of h) (.cons (.int _) (.cons (.int _) .nil))) (dpAll_ots t)
theorem shaped_dO (os : List (Option Pr)) : SeqAt.shaped (.list (os.map dO)) = true := shaped_map dO (fun o => by
  cases o with
  | none => exact ⟨by unfold dO; simp [PyData.canLay0], by unfold dO; simp [PyData.depth]⟩
  | some p => exact ⟨by unfold dO dP; simp [PyData.canLay0, PyData.canLayAll0], by unfold dO dP; simp [PyData.depth, PyData.depthAll]⟩) os
theorem any_dO : ∀ os : List (Option Pr), ((os.map dO).any fun z => PyData.eqv z .none) = decide (none ∈ os)
  | [] => rfl
  | none :: os => by
    rw [List.map_cons, List.any_cons, decide_eq_true List.mem_cons_self]
    show (PyData.eqv .none .none || _) = true
    rw [PyData.eqv]; rfl
  | some p :: os => by
    rw [List.map_cons, List.any_cons, any_dO os]
    show (PyData.eqv (dP p) .none || _) = _
    rw [show PyData.eqv (dP p) .none = false by unfold dP; rw [PyData.eqv] <;> simp, Bool.false_or]
    by_cases h : none ∈ os
    · rw [decide_eq_true h, decide_eq_true (List.mem_cons_of_mem _ h)]
    · rw [decide_eq_false h, decide_eq_false fun z => by
        rcases List.mem_cons.mp z with z | z
        · cases z
        · exact h z]
/-- the pairs with their places -/
theorem prs_keys {H : Hp} : ∀ {us : List V} {ts : List Pr}, Prs H us ts → ∃ ks : List (Addr × List Int), us = ks.map (fun k => V.ref k.1) ∧ ks.map (·.2) = ts.map prl ∧ ∀ k ∈ ks, H k.1 = some (.tup (k.2.map V.int))
  | _, _, .nil => ⟨[], rfl, rfl, fun k z => by cases z⟩
  | _, p :: ts, .cons ⟨a, e1, e2⟩ t => by
    obtain ⟨ks, h1, h2, h3⟩ := prs_keys t
    refine ⟨(a, prl p) :: ks, by rw [e1, h1]; rfl, by rw [List.map_cons, List.map_cons, h2], fun k hk => ?_⟩
    rcases List.mem_cons.mp hk with rfl | hk
    · exact e2
    · exact h3 k hk
theorem sum_ge {k : Nat} : ∀ {ps : List (List Nat)}, (∀ p ∈ ps, k ≤ p.length + 1) → ps.length * k ≤ (ps.map fun p => p.length + 1).sum
  | [], _ => by rw [List.length_nil, Nat.zero_mul]; exact Nat.zero_le _
  | x :: ps, h => by
    have h1 := h x List.mem_cons_self
    have h2 := sum_ge (ps := ps) fun y hy => h y (List.mem_cons_of_mem _ hy)
    rw [List.map_cons, List.sum_cons, List.length_cons, Nat.succ_mul]; omega
theorem words_of {n : Int} : ∀ {wt : List Str} {ts : List Pr}, (wt.map fun x => Tx.tieO (tl x) n) = ts.map some → wt.map tl = ts.map Tx.tw ∧ ∀ p ∈ ts, 0 ≤ p.1 ∧ p.1 < p.2 ∧ p.2 < n
  | [], [], _ => ⟨rfl, fun p z => by cases z⟩
  | [], _ :: _, h => by cases h
  | _ :: _, [], h => by cases h
  | x :: wt, a :: ts, h => by
    rw [List.map_cons, List.map_cons] at h
    injection h with h1 h2
    obtain ⟨i1, i2⟩ := words_of h2
    obtain ⟨j1, j2⟩ := Tx.tieO_some h1
    refine ⟨by rw [List.map_cons, List.map_cons, i1, j1], fun p hp => ?_⟩
    rcases List.mem_cons.mp hp with rfl | hp
    · exact j2
    · exact i2 p hp
theorem tw_inj : ∀ {ts ts' : List Pr}, (∀ p ∈ ts, 0 ≤ p.1 ∧ 0 ≤ p.2) → (∀ p ∈ ts', 0 ≤ p.1 ∧ 0 ≤ p.2) → ts.map Tx.tw = ts'.map Tx.tw → ts = ts'
  | [], [], _, _, _ => rfl
  | [], _ :: _, _, _, h => by cases h
  | _ :: _, [], _, _, h => by cases h
  | p :: ts, q :: ts', hp, hq, h => by
    rw [List.map_cons, List.map_cons] at h
    injection h with h1 h2
    have h3 := congrArg (par [45] []) h1
    rw [Tx.par_tw, Tx.par_tw] at h3
    injection h3 with h3
    injection h3 with h4 h5
    have h4 := numL_inj h4
    have h5 := numL_inj h5
    obtain ⟨a1, a2⟩ := hp p List.mem_cons_self
    obtain ⟨b1, b2⟩ := hq q List.mem_cons_self
    have e : p = q := Prod.ext (by omega) (by omega)
    rw [e, tw_inj (fun x hx => hp x (List.mem_cons_of_mem _ hx)) (fun x hx => hq x (List.mem_cons_of_mem _ hx)) h2]
def spNetOf : Sp := fun vs H Q _ => ∃ z : Str, vs = [.str z] ∧ z.length ≤ 4790 ∧
  (∀ (n : Nat) (ts : List Pr), Tx.Can n ts → tl z = Tx.txt n ts → ∀ (t p : Addr) (us : List V) (H' : Hp), H t = none → H p = none → Same H H' → H' t = some (.tup [.int n, .ref p]) → H' p = some (.lst us) → Prs H' us ts → Q (.ref t) H') ∧
  ((∀ (n : Nat) (ts : List Pr), Tx.Can n ts → tl z ≠ Tx.txt n ts) → ∀ H', Same H H' → Q .non H')
section
variable {P : Program} {w : World} {K : PySem.W.Frag} {mg : Str → Option Value} {c : Cs} {base : Heap}
theorem ok_net_of (T : Top K mg c) : Fd.Has P w K mg base CX0 4 "_law_net_of" ["_law_line"] spNetOf := by
  have G__law_number : Fd.Has P w K mg base CX0 2 "_law_number" ["_law_word"] spNumL := ok_numL T
  have G__law_tie : Fd.Has P w K mg base CX0 3 "_law_tie" ["_law_word", "_law_size"] spTieL := ok_tieL T
  refine T.d__law_net_of.ok sc__law_net_of (fun vs H Q E h => ?_) (fun f cdv A outer s H vs Q E hr h => ?_)
  · obtain ⟨z, rfl, _⟩ := h; rfl
  · obtain ⟨z, rfl, lz, q1, q2⟩ := h
    have hr__law_number := hr.mono (show 2 ≤ 3 by decide)
    have hr__law_tie := hr
    have lt := len_tl z
    refine ⟨_, (pss_cons (ps_set (i := 1) sc__law_net_of.nd rfl (Or.inl rfl) (pe_split (pv 0) pe_str))
      (pss_cons (ps_set (i := 2) sc__law_net_of.nd rfl (Or.inr rfl) (Fd.pe_f G__law_number hr__law_number (by rfl) (pa_cons (pe_slice sl_str (pe_ix ix_list (pv 1) pe_int (fun _ _ => rfl)) po_none (po_some (pe_un un_neg pe_int))) pa_nil)))
      (pss_cons (ps_if (PW.pt (pw_or (pt_cmpR op_ne (pe_slice sl_str (pe_ix ix_list (pv 1) pe_int (fun _ _ => rfl)) (po_some (pe_un un_neg pe_int)) po_none) pe_str (nomark _)) (pw_or (pt_cmpR op_isN (pv 2) pe_non (nomark _)) (pw_or1 (pt_not (pt_chain op_le op_le pe_int (pv 2) pe_int))))))
      (pss_one (ps_ret pe_non))
      pss_nil)
      (pss_cons (ps_setLc (i := 3) (own := [("_law_word", 4)]) (g := gName 4) rfl sc__law_net_of.nd rfl rfl (sw_true rfl rfl rfl (by decide +kernel)) (pi_list (pe_slice sl_list (pv 1) (po_some pe_int) po_none)) (blkOk_by (own := [("_law_word", 4)]) (N := N__law_net_of) (sc := defScope S__law_net_of) (by decide +kernel)) (fun _ _ _ _ _ => pg_name (i := 4) sc__law_net_of.nd rfl (Or.inl rfl)) (fun _ _ _ _ _ => pts_nil) (fun _ _ _ _ _ => (Fd.pe_f G__law_tie hr__law_tie (by rfl) (pa_cons (pv 4) (pa_cons (pv 2) pa_nil)))))
      (pss_cons (ps_if (PW.pt (pw_or (pt_cmpR (r := rInD K) (op_inD (Sd.u65 hr)) pe_non (pv 3) (by rfl)) (pw_or1 (pt_cmpR (op_neD hr.units) (pv 3) (pe_callB (Bs.cr_sorted rfl) (by rfl) T.n_sorted boot_sorted (pa_cons (pe_callTy (Bs.cr_setTs rfl hr.units) (by rfl) T.n_set boot_set (pa_cons (pv 3) pa_nil)) pa_nil)) (nomark _)))))
      (pss_one (ps_ret pe_non))
      pss_nil)
      (pss_one (ps_ret (pe_tup (pa_cons (pv 2) (pa_cons (pv 3) pa_nil)))))))))), ?_⟩
    dsimp only [cxOf, Cx.nox]
    -- the words
    refine ⟨_, rfl, ⟨_, rfl⟩, _, _, rfl, rfl, by decide +kernel, by rw [sizeLine_eq]; omega, fun p1 hp1 => ?_⟩
    have sp := split_tl z
    generalize Txt.split z (Str.ofString " ") = ws at sp ⊢
    obtain ⟨w0, wt, rfl⟩ : ∃ w0 wt, ws = w0 :: wt := by
      cases ws with
      | nil => exact absurd sp.symm (Tx.spl_ne _ _ _)
      | cons a b => exact ⟨a, b, rfl⟩
    have s1 : Same H (upd H p1 (.lst ((w0 :: wt).map V.str))) := Same.new hp1
    have ep1 : upd H p1 (.lst ((w0 :: wt).map V.str)) p1 = some (.lst ((w0 :: wt).map V.str)) := upd_same
    generalize upd H p1 (.lst ((w0 :: wt).map V.str)) = H1 at s1 ep1 ⊢
    have back : joinL [32] (tl w0 :: wt.map tl) = tl z := by
      have h := Tx.join_spl 32 (tl z) []
      rw [← sp, List.nil_append] at h; exact h
    have lens := Fs.join_len 32 (tl w0) (wt.map tl)
    rw [back] at lens
    have lword : ∀ x ∈ wt, x.length ≤ 4790 := fun x hx => by
      have h := spl_part_len [32] 0 [] (tl z) (tl x) (by rw [← sp]; exact List.mem_map.mpr ⟨x, List.mem_cons_of_mem _ hx, rfl⟩)
      rw [← len_tl, ← len_tl, List.length_nil] at h; omega
    have lw0 : w0.length ≤ 4790 := by rw [len_tl]; omega
    have lwt : wt.length ≤ 4791 := by
      have h := congrArg List.length sp
      rw [List.length_map, List.length_cons] at h
      have h2 := spl_len [32] 0 [] (tl z)
      omega
    -- when it is a net's text
    have shape : ∀ {n : Nat} {ts : List Pr}, Tx.Can n ts → tl z = Tx.txt n ts → tl w0 = numL n ++ [58] ∧ wt.map tl = ts.map Tx.tw := fun {n ts} C e => by
      have h := Tx.spl_txt n ts
      rw [← e, ← sp] at h
      injection h with h1 h2
      exact ⟨h1, h2⟩
    refine tnx ?_
    dsimp only
    have at0 : atI ((w0 :: wt).map V.str) 0 = some (V.str w0) := atI_nat (j := 0) rfl
    refine ⟨_, rfl, p1, _, (0 : Int), V.str w0, rfl, rfl, SqL.of ep1, at0, _, rfl, _, rfl, w0, rfl, by rw [sizeLine_eq]; omega, _, rfl, ?_⟩
    rw [show tl (cutS w0 none (some (-1))) = (tl w0).take ((tl w0).length - 1) from Fs.cut_toN w0 (k := 1) (by decide)]
    have e3 : tl (cutS w0 (some (-1)) none) = (tl w0).drop ((tl w0).length - 1) := Fs.cut_fromN w0 (k := 1) (by decide)
    have e4 : tl w0 = (tl w0).take ((tl w0).length - 1) ++ (tl w0).drop ((tl w0).length - 1) := (List.take_append_drop _ _).symm
    have l4 : ((tl w0).drop ((tl w0).length - 1)).length = (tl w0).length - ((tl w0).length - 1) := List.length_drop
    generalize (tl w0).take ((tl w0).length - 1) = u0 at e4 ⊢
    generalize (tl w0).drop ((tl w0).length - 1) = v0 at e3 e4 l4
    -- u0 and v0 of a net's text
    have cut0 : ∀ {n : Nat} {ts : List Pr}, Tx.Can n ts → tl z = Tx.txt n ts → u0 = numL n ∧ v0 = [58] := fun {n ts} C e => by
      have h := (shape C e).1
      have l := congrArg List.length h
      rw [List.length_append, List.length_singleton] at l
      rw [e4] at h
      exact List.append_inj' h (by rw [l4]; show _ = 1; omega)
    dsimp only [gName]
    refine ⟨_, rfl, p1, _, (0 : Int), V.str w0, rfl, rfl, SqL.of ep1, at0, _, rfl, _, rfl, w0, rfl, by rw [sizeLine_eq]; omega, rfl, _, rfl, ?_⟩
    by_cases cv : v0 = [58]
    rotate_left
    · rw [decide_eq_false (fun e => cv (by
        injection e with e
        rw [← e3, e]; decide +kernel))]
      refine iteT (iteT (q2 (fun n ts C e => cv (cut0 C e).2) H1 s1))
    rw [decide_eq_true (show V.str (cutS w0 (some (-1)) none) = V.str (Str.ofString ":") by
      congr 1
      exact ext_tl (by rw [e3, cv]; decide +kernel))]
    refine iteF ⟨_, rfl, rfl, _, rfl, ?_⟩
    cases ea : Tx.numO u0 with
    | none =>
      rw [show decide (numV none = V.non) = true from rfl]
      refine iteT (iteT (q2 (fun n ts C e => ?_) H1 s1))
      exact Tx.numO_none.mp ea n (by have := C.hi; omega) (cut0 C e).1.symm
    | some n =>
    rw [show decide (numV (some n) = V.non) = false from rfl]
    obtain ⟨n100, en⟩ := Tx.numO_some.mp ea
    refine iteF ⟨_, rfl, (1 : Int), (n : Int), rfl, rfl, _, rfl, ?_⟩
    have same : ∀ {n' : Nat} {ts : List Pr}, Tx.Can n' ts → tl z = Tx.txt n' ts → n' = n := fun {n' ts} C e => numL_inj ((cut0 C e).1.symm.trans en.symm)
    by_cases c1 : (1 : Int) ≤ (n : Int)
    rotate_left
    · rw [decide_eq_false c1]
      refine iteF ⟨_, rfl, iteT (q2 (fun n' ts C e => ?_) H1 s1)⟩
      have h1 := same C e
      have h2 := C.lo
      omega
    rw [decide_eq_true c1]
    refine iteT ⟨_, _, rfl, rfl, _, rfl, ?_⟩
    by_cases c2 : (n : Int) ≤ 40
    rotate_left
    · rw [decide_eq_false c2]
      refine iteT (q2 (fun n' ts C e => ?_) H1 s1)
      have h1 := same C e
      have h2 := C.hi
      omega
    rw [decide_eq_true c2]
    refine iteF ?_
    refine tnx ?_
    dsimp only
    -- the ties
    refine ⟨_, rfl, _, rfl, p1, _, rfl, SqL.of ep1, fun p2 hp2 => ?_⟩
    have cut : cutV ((w0 :: wt).map V.str) (some 1) none = wt.map V.str := Sl.cut_from ((w0 :: wt).map V.str) 1
    rw [cut]
    have s2 : Same H1 (upd H1 p2 (.lst (wt.map V.str))) := Same.new hp2
    have ep2 : upd H1 p2 (.lst (wt.map V.str)) p2 = some (.lst (wt.map V.str)) := upd_same
    generalize upd H1 p2 (.lst (wt.map V.str)) = H2 at s2 ep2 ⊢
    have s02 := Same.trans s1 s2
    refine ⟨p2, rfl, ⟨_, SqL.of ep2⟩, fun D hD => ?_⟩
    refine lc_list (xs := wt.map V.str) (fun i Hc => ∃ us, Same H2 Hc ∧ Hc D = some (.lst us) ∧ OTs Hc us ((wt.take i).map fun x => Tx.tieO (tl x) (n : Int))) ⟨[], Same.new hD, upd_same, .nil⟩ (fun i Hc _ ⟨_, e, _⟩ => SqL.of (e _ _ ep2)) ?_ ?_
    · rintro i y Hc hi ⟨us, s4, hDc, ot⟩
      rw [List.getElem?_map] at hi
      obtain ⟨x, hx, rfl⟩ := Option.map_eq_some_iff.mp hi
      have il := (List.getElem?_eq_some_iff.mp hx).1
      have lu := ot.len
      rw [List.length_map, List.length_take] at lu
      have tk : wt.take (i + 1) = wt.take i ++ [x] := by rw [List.take_succ, hx]; rfl
      have lx := lword x (List.mem_of_getElem? hx)
      refine ⟨rfl, tyes (iteT ⟨_, rfl, _, rfl, x, (n : Int), rfl, by omega, fun e => ?_, fun pr e t ht => ?_⟩)⟩
      · refine ⟨us, hDc, by rw [sizeLine_eq]; omega, us ++ [.non], Same.mut s4 hD, upd_same, ?_⟩
        rw [tk, List.map_append]
        have := (ot.tups (H2 := upd Hc D (.lst (us ++ [.non]))) fun b xs q => by rw [upd_ne (ne_of q hDc (fun z => nomatch z))]; exact q).snocN
        rw [List.map_singleton, e]; exact this
      · have sd : Same Hc (upd Hc t (.tup [.int pr.1, .int pr.2])) := Same.new ht
        have et : upd Hc t (.tup [.int pr.1, .int pr.2]) t = some (.tup [.int pr.1, .int pr.2]) := upd_same
        generalize upd Hc t (.tup [.int pr.1, .int pr.2]) = Hd at sd et ⊢
        have hDd := sd _ _ hDc
        have kt : ∀ b xs, Hd b = some (.tup xs) → upd Hd D (.lst (us ++ [.ref t])) b = some (.tup xs) := fun b xs q => by rw [upd_ne (ne_of q hDd (fun z => nomatch z))]; exact q
        refine ⟨us, hDd, by rw [sizeLine_eq]; omega, us ++ [.ref t], Same.mut (Same.trans s4 sd) hD, upd_same, ?_⟩
        rw [tk, List.map_append, List.map_singleton, e]
        exact ((ot.ex sd).tups kt).snocS (kt _ _ et)
    rintro H3 ⟨us, s3, eD, ot⟩
    rw [List.length_map, List.take_length] at ot
    have s03 := Same.trans s02 s3
    refine tnx ?_
    dsimp only
    refine ⟨_, rfl, .none, _, .non, .lst (SqL.of eD) (dpAll_ots ot), by decide +kernel, shaped_dO _, _, rfl, ?_⟩
    rw [any_dO]
    by_cases cn : none ∈ wt.map fun x => Tx.tieO (tl x) (n : Int)
    · rw [decide_eq_true cn]
      refine iteT (iteT (q2 (fun n' ts C e => ?_) H3 s03))
      obtain ⟨x, hx, ex⟩ := List.mem_map.mp cn
      obtain rfl := same C e
      have hm : tl x ∈ ts.map Tx.tw := by rw [← (shape C e).2]; exact List.mem_map.mpr ⟨x, hx, rfl⟩
      obtain ⟨pr, hp, e5⟩ := List.mem_map.mp hm
      obtain ⟨t1, t2, t3⟩ := C.tie pr hp
      rw [← e5, Tx.tieO_tw t1 t2 t3 (by omega)] at ex
      cases ex
    rw [decide_eq_false cn]
    refine iteF ?_
    obtain ⟨ts, ets⟩ := some_all cn
    rw [ets] at ot
    have pr := ot.prs
    -- what the words are
    have wds := words_of ets
    obtain ⟨wds, tie⟩ := wds
    have few : ts.length + 1 < 1200 := by
      have h1 := sum_ge (ps := wt.map tl) (k := 4) fun p hp => by
        rw [wds] at hp
        obtain ⟨q, _, rfl⟩ := List.mem_map.mp hp
        have := Tx.tw_len q
        omega
      have h2 := congrArg List.length wds
      rw [List.length_map, List.length_map] at h2
      rw [List.length_map] at h1
      omega
    have text : tl z = Tx.txt n ts := by
      rw [← back, wds, Tx.txt_join, e4, cv, en]
    obtain ⟨ks, k1, k2, k3⟩ := prs_keys pr
    have lks := congrArg List.length k2
    rw [List.length_map, List.length_map] at lks
    have tk : Bs.Tups K H3 ks := fun k hk => SqT.of (k3 k hk)
    refine ⟨_, rfl, _, rfl, D, ks, rfl, by rw [← k1]; exact SqL.of eD, tk, by omega, fun S L hS inn all nd => ?_⟩
    have sS : Same H3 (upd H3 S (Bs.SO P w S L)) := Same.new hS
    have eS : upd H3 S (Bs.SO P w S L) S = some (Bs.SO P w S L) := upd_same
    generalize upd H3 S (Bs.SO P w S L) = H4 at sS eS ⊢
    have two : ∀ k ∈ ks, ∃ p : Pr, k.2 = prl p := fun k hk => by
      have hm : k.2 ∈ ts.map prl := by rw [← k2]; exact List.mem_map.mpr ⟨k, hk, rfl⟩
      obtain ⟨p, _, e⟩ := List.mem_map.mp hm
      exact ⟨p, e.symm⟩
    refine ⟨S, L, rfl, eS, fun k hk => SqT.of (sS _ _ (k3 k (inn k hk))), fun k hk => ?_, fun L' r pm nd' pw hr => ?_⟩
    · obtain ⟨p, e⟩ := two k (inn k hk)
      exact ⟨p.1, p.2, e⟩
    have s5 : Same H4 (upd H4 r (.lst (L'.map fun q => V.ref q.1))) := Same.new hr
    have er : upd H4 r (.lst (L'.map fun q => V.ref q.1)) r = some (.lst (L'.map fun q => V.ref q.1)) := upd_same
    generalize upd H4 r (.lst (L'.map fun q => V.ref q.1)) = H5 at s5 er ⊢
    have s35 := Same.trans sS s5
    -- the pairs of the sorted list
    have bk : ∀ k ∈ L', k.2 = prl (k.2.headD 0, k.2.getD 1 0) := fun k hk => by
      obtain ⟨p, e⟩ := two k (inn k (pm.mem_iff.mp hk))
      rw [e]; rfl
    have prL : Prs H5 (L'.map fun q => V.ref q.1) (L'.map fun q => (q.2.headD 0, q.2.getD 1 0)) := by
      have key : ∀ M : List (Addr × List Int), (∀ z ∈ M, z ∈ L') → Prs H5 (M.map fun q => V.ref q.1) (M.map fun q => (q.2.headD 0, q.2.getD 1 0)) := by
        intro M
        induction M with
        | nil => intro _; exact .nil
        | cons z M ih =>
          intro hM
          have hz := hM z List.mem_cons_self
          refine .cons ⟨z.1, rfl, ?_⟩ (ih fun y hy => hM y (List.mem_cons_of_mem _ hy))
          have e := s35 _ _ (k3 z (inn z (pm.mem_iff.mp hz)))
          rw [bk z hz] at e
          exact e
      exact key L' fun z hz => hz
    have upL : (L'.map fun q => ((q.2.headD 0, q.2.getD 1 0) : Pr)).Pairwise plt := by
      refine List.pairwise_map.mpr ?_
      have nd2 : L'.Pairwise fun a b => a.2 ≠ b.2 := List.pairwise_map.mp nd'
      refine List.Pairwise.imp_of_mem (fun {a b} ha hb hab => ?_) (pw.and nd2)
      obtain ⟨h1, h2⟩ := hab
      have h3 : ¬ plt (b.2.headD 0, b.2.getD 1 0) (a.2.headD 0, a.2.getD 1 0) := SrtO.lexB_no.mp h1
      have h4 : (a.2.headD 0, a.2.getD 1 0) ≠ (b.2.headD 0, b.2.getD 1 0) := fun z => h2 (by rw [bk a ha, bk b hb, z])
      generalize (a.2.headD 0, a.2.getD 1 0) = u at h3 h4 ⊢
      generalize (b.2.headD 0, b.2.getD 1 0) = v at h3 h4 ⊢
      obtain ⟨u1, u2⟩ := u
      obtain ⟨v1, v2⟩ := v
      unfold plt at h3 ⊢
      simp only at h3 ⊢
      have h5 : ¬ (u1 = v1 ∧ u2 = v2) := fun z => h4 (by rw [z.1, z.2])
      omega
    have memL : ∀ p : Pr, p ∈ (L'.map fun q => ((q.2.headD 0, q.2.getD 1 0) : Pr)) ↔ p ∈ ts := fun p => by
      constructor
      · intro h
        obtain ⟨k, hk, rfl⟩ := List.mem_map.mp h
        have hm : k.2 ∈ ts.map prl := by rw [← k2]; exact List.mem_map.mpr ⟨k, inn k (pm.mem_iff.mp hk), rfl⟩
        obtain ⟨p, hp, e⟩ := List.mem_map.mp hm
        rw [← e]; exact hp
      · intro h
        have hm : prl p ∈ ks.map (·.2) := by rw [k2]; exact List.mem_map.mpr ⟨p, h, rfl⟩
        obtain ⟨k, hk, e⟩ := List.mem_map.mp hm
        obtain ⟨k', hk', e'⟩ := List.mem_map.mp (all k hk)
        refine List.mem_map.mpr ⟨k', pm.mem_iff.mpr hk', ?_⟩
        have e' : k'.2 = k.2 := e'
        have e : k.2 = prl p := e
        show (k'.2.headD 0, k'.2.getD 1 0) = p
        rw [e', e]; rfl
    generalize (L'.map fun q => ((q.2.headD 0, q.2.getD 1 0) : Pr)) = ts' at prL upL memL
    refine ⟨dPs ts, dPs ts', dp_prs (SqL.of (s35 _ _ eD)) (pr.ex s35), dp_prs (SqL.of er) prL, shaped_dPs _, shaped_dPs _, _, rfl, ?_⟩
    rw [eqv_dPs]
    by_cases ce : ts = ts'
    · rw [decide_eq_true ce]
      have C : Tx.Can n ts := ⟨by omega, by omega, tie, by rw [ce]; exact upL⟩
      refine iteF ?_
      refine ⟨_, rfl, _, rfl, (by show 2 ≤ sizeLine; decide), fun t ht => ?_⟩
      have b6 : Same H5 (upd H5 t (.tup [.int (n : Nat), .ref D])) := Same.new ht
      have s05 := Same.trans s03 s35
      exact q1 n ts C text t D us _ (s05.free ht) (s02.free hD) (Same.trans s05 b6) upd_same (b6 _ _ (s35 _ _ eD)) ((pr.ex s35).ex b6)
    · rw [decide_eq_false ce]
      refine iteT (q2 (fun n' ts2 C e => ?_) H5 (Same.trans s03 s35))
      obtain rfl := same C e
      have h2 := (shape C e).2
      rw [wds] at h2
      have e2 : ts = ts2 := tw_inj (fun p hp => by have := tie p hp; omega) (fun p hp => by have := C.tie p hp; omega) h2
      subst e2
      have : ts.Perm ts' := (List.perm_ext_iff_of_nodup (plt_nodup (can_up C)) (plt_nodup upL)).mpr fun p => (memL p).symm
      exact ce (plt_one this (can_up C) upL)
end
end Od

namespace Od
open PySem PySem.Spec PyProof.Rows L2
def opn (cl : List Bool) (p : Int) : Prop := cl[p.toNat]? = some false
def spReached (C : Addr) : Sp := fun vs H Q _ => ∃ (x l : Addr) (n : Nat) (ts : List Pr) (a : Int) (cl : List Bool), vs = [.ref x, .int a, .ref l] ∧ NetAt C H x n ts ∧ H l = some (.lst (cl.map V.bl)) ∧ cl.length = n ∧ 0 ≤ a ∧ a < (n : Int) ∧
  ∀ (ns : List Int) (p : Addr) (H' : Hp), ns.Pairwise (· < ·) → (∀ k, k ∈ ns ↔ Rch (nbr ts) (opn cl) a k) → H p = none → Same H H' → H' p = some (.lst (ns.map V.int)) → Q (.ref p) H'
section
variable {P : Program} {w : World} {K : PySem.W.Frag} {mg : Str → Option Value} {c : Cs} {base : Heap}
theorem ok_reached (T : Top K mg c) : Fd.Has P w K mg base CX0 4 "reached" ["net", "first", "closed"] (spReached c.Net) := by
  have G_Net_beside : Fd.MHas P w K mg base (L2N.CX P w) 3 c.Net "beside" ["self", "place"] (spBeside c.Net c.NoPlace) := ok_beside T
  refine Sd.okC T.d_reached sc_reached (fun vs H Q E h => ?_) (fun f cdv A outer s H vs Q E hcd hr h => ?_)
  · obtain ⟨x, l, n, ts, a, cl, rfl, _⟩ := h; rfl
  · obtain ⟨x, l, n, ts, a, cl, rfl, N, hl, hcl, h0, h1, q⟩ := h
    have hr_Net_beside := hr
    have n40 := N.hi
    refine ⟨_, (pss_cons (ps_set (i := 3) sc_reached.nd rfl (Or.inl rfl) (Sd.pe_set1 (pv 1) hcd))
      (pss_cons (ps_set (i := 4) sc_reached.nd rfl (Or.inl rfl) (pe_lst (pa_cons (pv 1) pa_nil)))
      (pss_cons (ps_while PassesOwn.never (pt_truth (pv 4) (by intro _; rfl))
      (pss_cons (ps_set (i := 5) sc_reached.nd rfl (Or.inl rfl) (pe_bm0 PySem.F.plainAttrs_list PySem.F.slot_list_pop PySem.F.type_list_pop mt_pop (pv 4)))
        (pss_one (ps_for PassesOwn.never rfl (pi_list (Fd.pe_mN G_Net_beside (pv 0) T.cl_Net hr_Net_beside Fd.pass00 (pa_cons (pv 5) pa_nil))) (pg_name (i := 6) sc_reached.nd rfl (Or.inl rfl))
        (pss_one (ps_if (PW.pt (pw_and (pt_not (pt_val (pe_ix ix_list (pv 2) (pv 6) (fun _ _ => rfl)))) (pw_and1 (pt_cmpR or_snotin (pv 6) (pv 3) (by rfl)))))
          (pss_cons (ps_expr (pe_sadd (pv 3) (pa_cons (pv 6) pa_nil)))
            (pss_one (ps_expr (pe_bm PySem.F.plainAttrs_list PySem.F.slot_list_append PySem.F.type_list_append mt_append (pv 4) (pa_cons (pv 6) pa_nil)))))
          pss_nil))))))
      (pss_one (ps_ret (pe_callB (cr_sortedSet rfl) (by rfl) T.n_sorted boot_sorted (pa_cons (pv 3) pa_nil))))))), ?_⟩
    dsimp only [cxOf, Cx.nox]
    refine fun S hS => ⟨_, rfl, a, rfl, upd_same, ?_⟩
    have s0 : Same H (upd (upd H S (SetO w S (fun _ => false) 0)) S (SetO w S (fun j => decide (j = a)) 1)) := Same.mut (Same.new hS) hS
    have hS0 : upd (upd H S (SetO w S (fun _ => false) 0)) S (SetO w S (fun j => decide (j = a)) 1) S = some (SetO w S (fun j => decide (j = a)) 1) := upd_same
    generalize upd (upd H S (SetO w S (fun _ => false) 0)) S (SetO w S (fun j => decide (j = a)) 1) = H0 at s0 hS0 ⊢
    refine ⟨_, rfl, (by show 1 ≤ sizeLine; decide), fun W hW => ?_⟩
    have nSW : S ≠ W := ne_of_none hS0 hW
    have hWH : H W = none := s0.free hW
    refine ⟨fun m σ H' => ∃ v5 v6 sl wl, σ = [some (.ref x), some (.int a), some (.ref l), some (.ref S), some (.ref W), v5, v6] ∧ Same H H' ∧ H' S = some (SetO w S (fun j => decide (j ∈ sl)) sl.length) ∧ H' W = some (.lst (wl.map V.int)) ∧ DI (nbr ts) (opn cl) n a sl wl (fun _ _ => False) ∧ m = 2 * (n - sl.length) + wl.length ∧ m ≤ 2 * n,
      ⟨_, none, none, [a], [a], rfl, Same.trans s0 (Same.new hW), by rw [upd_ne nSW, hS0]; exact congrArg some (setO_eq (fun j => by simp) rfl), upd_same, DI.start h0 h1, rfl, by show 2 * (n - 1) + 1 ≤ 2 * n; omega⟩, ?_⟩
    rintro m σ H1 ⟨v5, v6, sl, wl, rfl, s1, hS1, hW1, D, rfl, mb⟩
    refine ⟨_, rfl, _, .inl ⟨_, SqL.of hW1, rfl⟩, ?_⟩
    have hSH := hS
    by_cases cw : wl = []
    · subst cw
      dsimp only
      rw [if_neg (by simp)]
      refine ⟨_, rfl, S, _, _, rfl, hS1, by have := D.len; omega, fun ns p up mem ln hp => ?_⟩
      refine q ns p _ up (fun k => ?_) (s1.free hp) (Same.trans s1 (Same.new hp)) upd_same
      rw [mem k, decide_eq_true_eq, D.fin k]
    · have hne : wl.map V.int ≠ [] := by simpa using cw
      have hlen : 0 < wl.length := List.length_pos_iff.mpr cw
      obtain ⟨y, hy⟩ : ∃ y, wl[wl.length - 1]? = some y := ⟨_, List.getElem?_eq_getElem (by omega)⟩
      have hyl : wl.getLast? = some y := by rw [List.getLast?_eq_getElem?]; exact hy
      have hyw : y ∈ wl := List.mem_of_getElem? hy
      have hys : y ∈ sl := D.wt y hyw
      have yr := D.rg y hys
      dsimp only
      rw [if_pos (by simpa using cw)]
      refine ⟨fun σ H' => ∃ v5 v6 sl2 wl2, σ = [some (.ref x), some (.int a), some (.ref l), some (.ref S), some (.ref W), v5, v6] ∧ Same H H' ∧ H' S = some (SetO w S (fun j => decide (j ∈ sl2)) sl2.length) ∧ H' W = some (.lst (wl2.map V.int)) ∧ DI (nbr ts) (opn cl) n a sl2 wl2 (fun _ _ => False) ∧ 2 * (n - sl2.length) + wl2.length < 2 * (n - sl.length) + wl.length, ?_, ?_⟩
      · rintro σ' H' ⟨v5, v6, sl2, wl2, e1, e2, e3, e4, e5, e6⟩
        exact ⟨_, e6, v5, v6, sl2, wl2, e1, e2, e3, e4, e5, rfl, by omega⟩
      have D1 := D.pop hyl
      have dl : wl.dropLast.length = wl.length - 1 := List.length_dropLast
      refine ⟨_, rfl, .inl ⟨rfl, _, SqL.of hW1⟩, W, _, V.int y, rfl, rfl, hW1, by rw [List.length_map, List.getElem?_map, hy]; rfl, ?_⟩
      have nSW' : S ≠ W := nSW
      have s2 : Same H (upd H1 W (.lst (wl.map V.int).dropLast)) := Same.mut s1 hWH
      have hS2 : upd H1 W (.lst (wl.map V.int).dropLast) S = some (SetO w S (fun j => decide (j ∈ sl)) sl.length) := by rw [upd_ne nSW]; exact hS1
      have hW2 : upd H1 W (.lst (wl.map V.int).dropLast) W = some (.lst (wl.dropLast.map V.int)) := by rw [upd_same, List.map_dropLast]
      generalize upd H1 W (.lst (wl.map V.int).dropLast) = H2 at s2 hS2 hW2 ⊢
      have N2 := N.ex s2
      obtain ⟨dx, lt, ln, us, rs, a1, _⟩ := N2.at_
      obtain ⟨yn, rfl⟩ : ∃ yn : Nat, y = (yn : Int) := ⟨y.toNat, by omega⟩
      refine ⟨_, rfl, x, dx, _, rfl, a1, nf_beside _ _ _, _, rfl, x, n, ts, _, _, rfl, N2, .int _, fun i e hi D0 hD0 => ?_, fun z => ?_⟩
      rotate_left
      · have : isPl (.int (yn : Int)) n = true := decide_eq_true ⟨by omega, by omega⟩
        rw [this] at z; cases z
      injection e with e
      obtain rfl : yn = i := by omega
      have nD : D0 ≠ S := fun z => by rw [z, hS2] at hD0; cases hD0
      have nDW : D0 ≠ W := fun z => by rw [z, hW2] at hD0; cases hD0
      refine ⟨D0, rfl, ⟨_, SqL.of upd_same⟩, for_list (K := K) (a := D0) (xs := (nbr ts (yn : Int)).map V.int) (fun i σ H' => ∃ v6 sl2 wl2, σ = [some (.ref x), some (.int a), some (.ref l), some (.ref S), some (.ref W), some (.int (yn : Int)), v6] ∧ Same H H' ∧ H' D0 = some (.lst ((nbr ts (yn : Int)).map V.int)) ∧ H' S = some (SetO w S (fun j => decide (j ∈ sl2)) sl2.length) ∧ H' W = some (.lst (wl2.map V.int)) ∧ (yn : Int) ∈ sl2 ∧
          DI (nbr ts) (opn cl) n a sl2 wl2 (fun p z => p = (yn : Int) ∧ z ∈ (nbr ts (yn : Int)).drop i) ∧ 2 * (n - sl2.length) + wl2.length < 2 * (n - sl.length) + wl.length)
        ⟨v6, sl, wl.dropLast, rfl, Same.trans s2 (Same.new hD0), upd_same, by rw [upd_ne nD.symm]; exact hS2, by rw [upd_ne nDW.symm]; exact hW2, hys, D1, by omega⟩ (fun i σ H' _ ⟨_, _, _, _, _, e, _⟩ => SqL.of e) ?_ ?_⟩
      · rintro i z σ H3 hi ⟨v6, sl2, wl2, rfl, s3, hD3, hS3, hW3, hy3, D3, ms⟩
        rw [List.getElem?_map] at hi
        obtain ⟨k, hk, rfl⟩ := Option.map_eq_some_iff.mp hi
        have kr := nbr_rng N.tie (List.mem_of_getElem? hk)
        have hl3 := s3 _ _ hl
        obtain ⟨b, hb⟩ : ∃ b, cl[k.toNat]? = some b := ⟨_, List.getElem?_eq_getElem (by omega)⟩
        have g : (cl.map V.bl)[k.toNat]? = some (V.bl b) := by rw [List.getElem?_map, hb]; rfl
        have g2 := atI_nat g
        rw [show ((k.toNat : Nat) : Int) = k by omega] at g2
        have len3 := D3.len
        refine ⟨_, rfl, _, rfl, l, _, _, _, rfl, rfl, SqL.of hl3, g2, _, rfl, ?_⟩
        cases b with
        | true =>
          refine iteF ?_
          refine ⟨_, sl2, wl2, rfl, s3, hD3, hS3, hW3, hy3, D3.skip hk (fun o => ?_), ms⟩
          unfold opn at o; rw [hb] at o; cases o
        | false =>
          refine iteT ⟨_, rfl, _, rfl, k, S, _, _, rfl, rfl, hS3, _, rfl, ?_⟩
          by_cases cs : k ∈ sl2
          · rw [decide_eq_true cs]
            refine iteF ?_
            exact ⟨_, sl2, wl2, rfl, s3, hD3, hS3, hW3, hy3, D3.skip hk (fun _ => cs), ms⟩
          · rw [decide_eq_false cs]
            refine iteT ?_
            have D4 := D3.push hy3 hk kr hb cs
            have len4 := D4.len
            rw [List.length_append, List.length_singleton] at len4
            refine ⟨_, rfl, ⟨S, _, _, rfl, hS3⟩, _, rfl, S, k, _, _, rfl, rfl, hS3, (by show sl2.length + 1 < scanBound; unfold scanBound; omega), ?_⟩
            refine ⟨_, rfl, .inl ⟨rfl, _, SqL.of (by rw [upd_ne nSW.symm]; exact hW3)⟩, _, rfl, W, _, _, rfl, rfl, by rw [upd_ne nSW.symm]; exact hW3, ?_, ?_⟩
            · rw [List.length_map, sizeLine_eq]; omega
            · refine ⟨_, sl2 ++ [k], wl2 ++ [k], rfl, Same.mut (Same.mut s3 hS) hWH, ?_, ?_, ?_, List.mem_append_left _ hy3, D4, ?_⟩
              · rw [upd_ne nDW, upd_ne nD]; exact hD3
              · rw [upd_ne nSW, upd_same, if_neg (by rw [decide_eq_false cs]; exact Bool.false_ne_true)]
                exact congrArg some (setO_eq (fun j => by simp) (by rw [List.length_append]; rfl))
              · rw [upd_same, List.map_append]; rfl
              · rw [List.length_append, List.length_append, List.length_singleton]; omega
      · rintro σ H3 ⟨v6, sl2, wl2, rfl, s3, hD3, hS3, hW3, hy3, D3, ms⟩
        rw [List.length_map] at D3
        exact ⟨_, v6, sl2, wl2, rfl, s3, hS3, hW3, D3.done, ms⟩
end
end Od

namespace Od
open PySem PySem.Spec PyProof.Rows L2
theorem opn_set {cl : List Bool} {k p : Int} (hk : 0 ≤ k) (hp : 0 ≤ p) : opn (cl.set k.toNat true) p ↔ opn cl p ∧ p ≠ k := by
  unfold opn
  by_cases c : k.toNat = p.toNat
  · have e : p = k := by omega
    subst e
    rw [List.getElem?_set_self']
    constructor
    · intro h
      cases hc : cl[p.toNat]? with
      | none => rw [hc] at h; cases h
      | some b => rw [hc] at h; cases h
    · rintro ⟨_, h⟩; exact absurd rfl h
  · rw [List.getElem?_set_ne c]
    exact ⟨fun h => ⟨h, fun e => c (by rw [e])⟩, fun h => h.1⟩
theorem opn_rep (n : Nat) {p : Int} (h0 : 0 ≤ p) (h1 : p < (n : Int)) : opn (List.replicate n false) p := by
  unfold opn
  rw [List.getElem?_replicate, if_pos (by omega)]
theorem Rch.iff {nb : Int → List Int} {ok ok' : Int → Prop} {n : Nat} {a p : Int} (hb : ∀ {k q : Int}, q ∈ nb k → 0 ≤ q ∧ q < (n : Int)) (h : ∀ q, 0 ≤ q → q < (n : Int) → (ok q ↔ ok' q)) : Rch nb ok a p ↔ Rch nb ok' a p := by
  constructor
  · intro r
    induction r with
    | base => exact .base
    | step _ m o ih => exact .step ih m ((h _ (hb m).1 (hb m).2).mp o)
  · intro r
    induction r with
    | base => exact .base
    | step _ m o ih => exact .step ih m ((h _ (hb m).1 (hb m).2).mpr o)
theorem left_succ {nb : Int → List Int} {ok : Int → Prop} {n i : Nat} {p : Int} (c : left nb n ok i (i : Int)) : left nb n ok (i + 1) p ↔ left nb n ok i p ∧ p ∉ partOf nb n ok (i : Int) := by
  have e : partsTo nb n ok (i + 1) = partsTo nb n ok i ++ [partOf nb n ok (i : Int)] := by
    rw [partsTo]; exact if_pos c
  unfold left
  rw [e]
  constructor
  · rintro ⟨o, h⟩
    exact ⟨⟨o, fun L hL => h L (List.mem_append_left _ hL)⟩, h _ (List.mem_append_right _ (List.mem_singleton.mpr rfl))⟩
  · rintro ⟨⟨o, h⟩, h2⟩
    refine ⟨o, fun L hL => ?_⟩
    rcases List.mem_append.mp hL with z | z
    · exact h L z
    · rw [List.mem_singleton.mp z]; exact h2
theorem parts_yes {nb : Int → List Int} {ok : Int → Prop} {n i : Nat} (c : left nb n ok i (i : Int)) : partsTo nb n ok (i + 1) = partsTo nb n ok i ++ [partOf nb n ok (i : Int)] := by
  rw [partsTo]; exact if_pos c
theorem parts_no {nb : Int → List Int} {ok : Int → Prop} {n i : Nat} (c : ¬ left nb n ok i (i : Int)) : partsTo nb n ok (i + 1) = partsTo nb n ok i := by
  rw [partsTo]; exact if_neg c
theorem left_no {nb : Int → List Int} {ok : Int → Prop} {n i : Nat} {p : Int} (c : ¬ left nb n ok i (i : Int)) : left nb n ok (i + 1) p ↔ left nb n ok i p := by
  unfold left; rw [parts_no c]
/-- one row more -/
theorem RowsAt.snoc {H H' : Hp} {p : Addr} {n : Nat} {f g : Nat → List Int} {rs : List Addr} (R : RowsAt H H' p n f rs) {r : Addr} {L : List Int} (hr : H' r = some (.lst (L.map V.int))) (hn : H r = none) (hne : r ≠ p) (hni : r ∉ rs)
    (h1 : ∀ i, i < n → g i = f i) (h2 : g n = L) : RowsAt H (upd H' p (.lst ((rs ++ [r]).map V.ref))) p (n + 1) g (rs ++ [r]) := by
  refine ⟨by rw [List.length_append, R.len]; rfl, List.nodup_append.mpr ⟨R.nd, List.pairwise_singleton _ _, fun a ha b hb e => hni (by rw [← List.mem_singleton.mp hb, ← e]; exact ha)⟩, upd_same, R.new, fun a ha => ?_, fun i a ha => ?_⟩
  · rcases List.mem_append.mp ha with z | z
    · exact R.rnew a z
    · rw [List.mem_singleton.mp z]; exact hn
  · by_cases ci : i < n
    · rw [List.getElem?_append_left (by rw [R.len]; exact ci)] at ha
      rw [upd_ne (R.ne (List.mem_of_getElem? ha)), h1 i ci]
      exact R.row i a ha
    · rw [List.getElem?_append_right (by rw [R.len]; omega), R.len] at ha
      have ei : i = n := by
        cases hk : i - n with
        | zero => omega
        | succ k => rw [hk] at ha; simp at ha
      subst ei
      rw [Nat.sub_self] at ha
      simp at ha
      subst ha
      rw [upd_ne hne, h2]; exact hr
/-- another object is written -/
theorem RowsAt.other {H H' : Hp} {p : Addr} {n : Nat} {f : Nat → List Int} {rs : List Addr} {b : Addr} {o : HO} (R : RowsAt H H' p n f rs) (h1 : b ∉ rs) (h2 : b ≠ p) : RowsAt H (upd H' b o) p n f rs :=
  ⟨R.len, R.nd, by rw [upd_ne h2.symm]; exact R.at_, R.new, R.rnew, fun i a h => by
    have z : a ≠ b := fun z => h1 (by rw [← z]; exact List.mem_of_getElem? h)
    rw [upd_ne z]; exact R.row i a h⟩
def okOf (ms : List Int) (p : Int) : Prop := p ∉ ms
/-- the parts as the rows of a list -/
noncomputable def prow (ts : List Pr) (n : Nat) (ms : List Int) (i : Nat) (j : Nat) : List Int := (partsTo (nbr ts) n (okOf ms) i).getD j []
def spParts (C B : Addr) : Sp := fun vs H Q E => ∃ (x l : Addr) (n : Nat) (ts : List Pr) (xs : List V), vs = [.ref x, .ref l] ∧ NetAt C H x n ts ∧ H l = some (.lst xs) ∧ (∀ v ∈ xs, ∃ t, Kd H v t) ∧
  ((∃ ms : List Int, xs = ms.map V.int ∧ (∀ m ∈ ms, 0 ≤ m ∧ m < (n : Int)) ∧ ∀ (p : Addr) (rs : List Addr) (H' : Hp), Same H H' → RowsAt H H' p (partsTo (nbr ts) n (okOf ms) n).length (prow ts n ms n) rs → Q (.ref p) H') ∨
  ((∃ v ∈ xs, isPl v n = false) ∧ ∀ H', Same H H' → E (.ref B) none H'))
section
variable {P : Program} {w : World} {K : PySem.W.Frag} {mg : Str → Option Value} {c : Cs} {base : Heap}
theorem ok_parts (T : Top K mg c) : Fd.Has P w K mg base (L2N.CX P w) 5 "parts" ["net", "taken"] (spParts c.Net c.NoPlace) := by
  have G_is_place : Fd.Has P w K mg base CX0 2 "is_place" ["thing", "size"] spPlace := ok_is_place T
  have G_reached : Fd.Has P w K mg base CX0 4 "reached" ["net", "first", "closed"] (spReached c.Net) := ok_reached T
  refine T.d_parts.okN sc_parts (fun vs H Q E h => ?_) (fun f cdv A outer s H vs Q E hr h => ?_)
  · obtain ⟨x, l, n, ts, xs, rfl, _⟩ := h; rfl
  · obtain ⟨x, l, n, ts, xs, rfl, N, hl, kx, hres⟩ := h
    have hr_is_place := hr.mono (show 2 ≤ 4 by decide)
    have hr_reached := hr
    have n40 := N.hi
    have n1 := N.lo
    refine ⟨_, (pss_cons (ps_if (pt_not (pt_val (pe_callB (r := rIsi K) call_isi (by rfl) T.n_isinstance boot_isinstance (pa_cons (pv 1) (pa_cons (pe_bltn (v := .ty "list") (by rfl) T.n_list boot_list rfl) pa_nil)))))
      (pss_one (L2N.ps_raise rfl (L2N.takes_of rfl rfl rfl rfl) (L2N.pmk_own PySem.F.excBase_ValueError T.e_NoPlace.x T.e_NoPlace.c T.e_NoPlace.p (raises_own T.e_NoPlace.b T.e_NoPlace.t) (by rfl))))
      pss_nil)
      (pss_cons (ps_set (i := 2) sc_parts.nd rfl (Or.inl rfl) (pe_op op_rep (pe_lst (pa_cons pe_bl pa_nil)) (pe_fld (pv 0) rfl)))
      (pss_cons (ps_for (L2.passes_of rfl) rfl (pi_list (pv 1)) (pg_name (i := 3) sc_parts.nd rfl (Or.inl rfl))
      (pss_cons (ps_if (pt_not (pt_val (Fd.pe_f G_is_place hr_is_place (by rfl) (pa_cons (pv 3) (pa_cons (pe_fld (pv 0) rfl) pa_nil)))))
        (pss_one (L2N.ps_raise rfl (L2N.takes_of rfl rfl rfl rfl) (L2N.pmk_own PySem.F.excBase_ValueError T.e_NoPlace.x T.e_NoPlace.c T.e_NoPlace.p (raises_own T.e_NoPlace.b T.e_NoPlace.t) (by rfl))))
        pss_nil)
        (pss_one (ps_asg pe_bl (pg_sub (pv 2) (pv 3) set_list)))))
      (pss_cons (ps_set (i := 4) sc_parts.nd rfl (Or.inl rfl) (pe_lst pa_nil))
      (pss_cons (ps_for (L2.passes_of rfl) rfl (pi_range1 (by rfl) T.n_range (pa_cons (pe_fld (pv 0) rfl) pa_nil)) (pg_name (i := 5) sc_parts.nd rfl (Or.inl rfl))
      (pss_one (ps_if (pt_not (pt_val (pe_ix ix_list (pv 2) (pv 5) (fun _ _ => rfl))))
        (pss_cons (ps_set (i := 6) sc_parts.nd rfl (Or.inl rfl) (Fd.pe_f G_reached hr_reached (by rfl) (pa_cons (pv 0) (pa_cons (pv 5) (pa_cons (pv 2) pa_nil)))))
          (pss_cons (ps_for (L2.passes_of rfl) rfl (pi_list (pv 6)) (pg_name (i := 3) sc_parts.nd rfl (Or.inl rfl))
          (pss_one (ps_asg pe_bl (pg_sub (pv 2) (pv 3) set_list))))
          (pss_one (ps_expr (pe_bm PySem.F.plainAttrs_list PySem.F.slot_list_append PySem.F.type_list_append mt_append (pv 4) (pa_cons (pv 6) pa_nil))))))
        pss_nil)))
      (pss_one (ps_ret (pv 4)))))))), ?_⟩
    dsimp only [cxOf, Cx.nox]
    refine ⟨_, rfl, _, _, _, _, _, rfl, ClsV.ty _, (Kd.lst hl).tyx, kit_ty (kit_list _), _, rfl, ?_⟩
    rw [decide_eq_true rfl]
    refine iteF ?_
    -- closed
    refine ⟨(by show 1 ≤ sizeLine; decide), fun p0 hp0 => ?_⟩
    have s0 : Same H (upd H p0 (.lst [.bl false])) := Same.new hp0
    obtain ⟨dx, lt, ln, us, rs, a1, _⟩ := (N.ex s0).at_
    refine ⟨_, rfl, x, c.Net, dx, _, _, rfl, a1, T.cl_Net, T.a_Net_size, nf_size _ _ _, p0, (n : Int), [.bl false], rfl, rfl, upd_same, by omega, by omega, by rw [sizeLine_eq]; show 1 * (n : Int).toNat ≤ _; omega, fun C hC => ?_⟩
    have eC : (List.replicate ((n : Int).toNat) [V.bl false]).flatten = (List.replicate n false).map V.bl := by
      rw [Int.toNat_natCast, List.map_replicate]
      exact List.flatten_replicate_singleton
    rw [eC]
    have hCH : H C = none := s0.free hC
    have s1 : Same H (upd (upd H p0 (.lst [.bl false])) C (.lst ((List.replicate n false).map V.bl))) := Same.trans s0 (Same.new hC)
    have hC1 : upd (upd H p0 (.lst [.bl false])) C (.lst ((List.replicate n false).map V.bl)) C = some (.lst ((List.replicate n false).map V.bl)) := upd_same
    generalize upd (upd H p0 (.lst [.bl false])) C (.lst ((List.replicate n false).map V.bl)) = H1 at s1 hC1 ⊢
    have bad : ∀ H' v, Same H H' → v ∈ xs → isPl v n = false → E (.ref c.NoPlace) none H' := fun H' v e hv hz => by
      rcases hres with ⟨ms, em, hm, _⟩ | ⟨_, q⟩
      · rw [em] at hv
        obtain ⟨m, hm', rfl⟩ := List.mem_map.mp hv
        have r := hm m hm'
        have : isPl (.int m) n = true := decide_eq_true r
        rw [this] at hz; cases hz
      · exact q H' e
    refine ⟨_, rfl, l, rfl, ⟨xs, SqL.of (s1 _ _ hl)⟩, for_list (K := K) (a := l) (xs := xs) (fun i σ H' => ∃ v3 clb, σ = [some (.ref x), some (.ref l), some (.ref C), v3, none, none, none] ∧ Same H H' ∧ H' C = some (.lst (clb.map V.bl)) ∧ clb.length = n ∧ (∀ v ∈ xs.take i, isPl v n = true) ∧ ∀ p : Int, 0 ≤ p → p < (n : Int) → (opn clb p ↔ V.int p ∉ xs.take i))
      ⟨none, List.replicate n false, rfl, s1, hC1, List.length_replicate, fun v hv => (by rw [List.take_zero] at hv; cases hv), fun p h0 h1 => ⟨fun _ => by rw [List.take_zero]; exact List.not_mem_nil, fun _ => opn_rep n h0 h1⟩⟩ (fun i σ H' _ ⟨_, _, _, e, _⟩ => SqL.of (e _ _ hl)) ?_ ?_⟩
    · rintro i v σ H2 hi ⟨v3, clb, rfl, s2, hC2, lc, al, op⟩
      have hv := List.mem_of_getElem? hi
      obtain ⟨t, kd⟩ := kx v hv
      obtain ⟨dx2, lt2, ln2, us2, rs2, a2, _⟩ := (N.ex s2).at_
      have tk : xs.take (i + 1) = xs.take i ++ [v] := by rw [List.take_succ, hi]; rfl
      refine ⟨_, rfl, _, rfl, x, c.Net, dx2, _, _, rfl, a2, T.cl_Net, T.a_Net_size, nf_size _ _ _, v, t, (n : Int), rfl, kd.ex s2, _, rfl, ?_⟩
      cases hp : isPl v n with
      | false => exact iteT (bad H2 v s2 hv hp)
      | true =>
        refine iteF ?_
        obtain ⟨k, rfl, k0, k1⟩ := isPl_int hp
        have ik : ixN clb.length k = some k.toNat := by unfold ixN; rw [lc, if_pos k0, if_pos k1]
        refine ⟨_, rfl, _, rfl, C, _, k, k.toNat, rfl, rfl, hC2, by rw [List.length_map]; exact ik, ?_⟩
        refine ⟨_, clb.set k.toNat true, rfl, Same.mut s2 hCH, by rw [upd_same, List.map_set], by rw [List.length_set]; exact lc, fun u hu => ?_, fun p h0 h1 => ?_⟩
        · rw [tk] at hu
          rcases List.mem_append.mp hu with z | z
          · exact al u z
          · rw [List.mem_singleton.mp z]; exact hp
        · rw [opn_set k0 h0, op p h0 h1, tk, List.mem_append, List.mem_singleton, not_or]
          exact and_congr_right fun _ => not_congr ⟨fun e => by rw [e], fun e => by injection e⟩
    · rintro σ H2 ⟨v3, clb, rfl, s2, hC2, lc, al, op⟩
      rw [List.take_length] at al op
      -- all are places
      rcases hres with ⟨ms, em, hm, q⟩ | ⟨⟨v, hv, hz⟩, _⟩
      rotate_left
      · rw [al v hv] at hz; cases hz
      subst em
      have op' : ∀ p : Int, 0 ≤ p → p < (n : Int) → (opn clb p ↔ left (nbr ts) n (okOf ms) 0 p) := fun p h0 h1 => by
        rw [op p h0 h1]
        constructor
        · intro h
          exact ⟨fun z => h (List.mem_map.mpr ⟨p, z, rfl⟩), fun L hL => by cases hL⟩
        · rintro ⟨h, _⟩ z
          obtain ⟨m, hm', e⟩ := List.mem_map.mp z
          injection e with e; subst e; exact h hm'
      clear op al
      have hb : ∀ {k q : Int}, q ∈ nbr ts k → 0 ≤ q ∧ q < (n : Int) := fun m => nbr_rng N.tie m
      have hsy : ∀ {k q : Int}, q ∈ nbr ts k → k ∈ nbr ts q := fun m => nbr_sym N.tie m
      refine ⟨Nat.zero_le _, fun F hF => ?_⟩
      have nCF : C ≠ F := ne_of_none hC2 hF
      have hFH : H F = none := s2.free hF
      have s3 : Same H (upd H2 F (.lst [])) := Same.trans s2 (Same.new hF)
      have hC3 : upd H2 F (.lst []) C = some (.lst (clb.map V.bl)) := by rw [upd_ne nCF]; exact hC2
      have hF3 : upd H2 F (.lst []) F = some (.lst []) := upd_same
      generalize upd H2 F (.lst []) = H3 at s3 hC3 hF3 ⊢
      obtain ⟨dx3, lt3, ln3, us3, rs3, a3, _⟩ := (N.ex s3).at_
      refine ⟨_, rfl, x, c.Net, dx3, _, _, rfl, a3, T.cl_Net, T.a_Net_size, nf_size _ _ _, (n : Int), rfl, by omega, by omega, for_range (lo := 0) (n := n) (fun i σ H' => ∃ v3 v5 v6 clb rs, σ = [some (.ref x), some (.ref l), some (.ref C), v3, some (.ref F), v5, v6] ∧ Same H H' ∧ H' C = some (.lst (clb.map V.bl)) ∧ clb.length = n ∧ (∀ p : Int, 0 ≤ p → p < (n : Int) → (opn clb p ↔ left (nbr ts) n (okOf ms) i p)) ∧
          RowsAt H H' F (partsTo (nbr ts) n (okOf ms) i).length (prow ts n ms i) rs ∧ C ∉ rs)
        ⟨v3, none, none, clb, [], rfl, s3, hC3, lc, op', ⟨rfl, List.nodup_nil, hF3, hFH, fun a z => (by cases z), fun i a z => (by simp at z)⟩, List.not_mem_nil⟩ ?_ ?_⟩
      · rintro i σ H4 hi ⟨v3, v5, v6, clb, rs, rfl, s4, hC4, lc, op, R, nC⟩
        rw [show (0 : Int) + (i : Int) = (i : Int) from Int.zero_add _]
        have N4 := N.ex s4
        obtain ⟨b, hb'⟩ : ∃ b, clb[i]? = some b := ⟨_, List.getElem?_eq_getElem (by omega)⟩
        have g : (clb.map V.bl)[i]? = some (V.bl b) := by rw [List.getElem?_map, hb']; rfl
        have lenP := partsTo_len (nb := nbr ts) (n := n) (ok := okOf ms) i
        refine ⟨_, rfl, _, rfl, C, _, _, _, rfl, rfl, SqL.of hC4, atI_nat g, _, rfl, ?_⟩
        have oi := op (i : Int) (by omega) (by omega)
        cases b with
        | true =>
          refine iteF ?_
          have no : ¬ left (nbr ts) n (okOf ms) i (i : Int) := fun z => by
            have z := oi.mpr z
            unfold opn at z; rw [Int.toNat_natCast, hb'] at z; cases z
          refine ⟨_, _, _, clb, rs, rfl, s4, hC4, lc, fun p h0 h1 => (op p h0 h1).trans (left_no no).symm, ?_, nC⟩
          unfold prow
          rw [parts_no no]
          exact R
        | false =>
          have yes : left (nbr ts) n (okOf ms) i (i : Int) := oi.mp (by unfold opn; rw [Int.toNat_natCast]; exact hb')
          refine iteT ⟨_, rfl, _, rfl, _, rfl, x, C, n, ts, (i : Int), clb, rfl, N4, hC4, lc, by omega, by omega, fun ns r H5 up mem hr0 s5 hr5 => ?_⟩
          have eL : ns = partOf (nbr ts) n (okOf ms) (i : Int) := up_one up (partOf_up _ _ _ _) fun p => by
            rw [mem p, partOf_mem hb (by omega) (by omega), Rch.iff hb op, rch_left hb hsy (by omega) (by omega) (by omega) yes]
          rw [eL] at hr5
          have lenL := partOf_len (nbr ts) n (okOf ms) (i : Int)
          have memL : ∀ q ∈ partOf (nbr ts) n (okOf ms) (i : Int), 0 ≤ q ∧ q < (n : Int) := fun q hq => rch_rng hb (by omega) (by omega) ((partOf_mem hb (by omega) (by omega)).mp hq)
          have eP := parts_yes yes
          have eleft := fun p => left_succ (p := p) yes
          generalize partOf (nbr ts) n (okOf ms) (i : Int) = L at hr5 lenL memL eP eleft
          clear mem up eL ns
          have nrC : r ≠ C := fun z => by rw [z, hC4] at hr0; cases hr0
          have nrF : r ≠ F := fun z => by rw [z, R.at_] at hr0; cases hr0
          have hrH : H r = none := s4.free hr0
          have nrR : r ∉ rs := fun z => by
            obtain ⟨j, hj⟩ := List.getElem?_of_mem z
            have h1 := R.row j r hj
            rw [hr0] at h1; cases h1
          have R5 := R.keep s5
          refine ⟨_, rfl, r, rfl, ⟨_, SqL.of hr5⟩, for_list (K := K) (a := r) (xs := L.map V.int) (fun j σ H' => ∃ v3 clb', σ = [some (.ref x), some (.ref l), some (.ref C), v3, some (.ref F), some (.int (i : Int)), some (.ref r)] ∧ Same H H' ∧ H' C = some (.lst (clb'.map V.bl)) ∧ clb'.length = n ∧ (∀ p : Int, 0 ≤ p → p < (n : Int) → (opn clb' p ↔ opn clb p ∧ p ∉ L.take j)) ∧ H' r = some (.lst (L.map V.int)) ∧
              RowsAt H H' F (partsTo (nbr ts) n (okOf ms) i).length (prow ts n ms i) rs)
            ⟨v3, clb, rfl, Same.trans s4 s5, s5 _ _ hC4, lc, fun p _ _ => ⟨fun z => ⟨z, by rw [List.take_zero]; exact List.not_mem_nil⟩, fun z => z.1⟩, hr5, R5⟩ (fun j σ H' _ ⟨_, _, _, _, _, _, _, e, _⟩ => SqL.of e) ?_ ?_⟩
          · rintro j v σ H6 hj ⟨v3, clb', rfl, s6, hC6, lc', op6, hr6, R6⟩
            rw [List.getElem?_map] at hj
            obtain ⟨k, hk, rfl⟩ := Option.map_eq_some_iff.mp hj
            have kr := memL k (List.mem_of_getElem? hk)
            have tk : L.take (j + 1) = L.take j ++ [k] := by rw [List.take_succ, hk]; rfl
            have ik : ixN clb'.length k = some k.toNat := by unfold ixN; rw [lc', if_pos kr.1, if_pos kr.2]
            refine ⟨_, rfl, _, rfl, C, _, k, k.toNat, rfl, rfl, hC6, by rw [List.length_map]; exact ik, ?_⟩
            refine ⟨_, clb'.set k.toNat true, rfl, Same.mut s6 hCH, by rw [upd_same, List.map_set], by rw [List.length_set]; exact lc', fun p h0 h1 => ?_, by rw [upd_ne nrC]; exact hr6, ?_⟩
            · rw [opn_set kr.1 h0, op6 p h0 h1, tk, List.mem_append, List.mem_singleton, not_or, and_assoc]
            · exact R6.other nC nCF
          · rintro σ H6 ⟨v3, clb', rfl, s6, hC6, lc', op6, hr6, R6⟩
            rw [List.length_map, List.take_length] at op6
            refine ⟨_, rfl, .inl ⟨rfl, _, SqL.of R6.at_⟩, _, rfl, F, _, _, rfl, rfl, R6.at_, by rw [List.length_map, R6.len, sizeLine_eq]; omega, ?_⟩
            refine ⟨_, _, _, clb', rs ++ [r], rfl, Same.mut s6 hFH, by rw [upd_ne nCF]; exact hC6, lc', fun p h0 h1 => ?_, ?_, fun z => ?_⟩
            · rw [op6 p h0 h1, op p h0 h1, eleft p]
            · have R7 := R6.snoc (g := prow ts n ms (i + 1)) hr6 hrH nrF nrR (fun j hj => by unfold prow; rw [eP, List.getD_eq_getElem?_getD, List.getD_eq_getElem?_getD, List.getElem?_append_left hj]) (by unfold prow; rw [eP, List.getD_eq_getElem?_getD, List.getElem?_append_right (Nat.le_refl _), Nat.sub_self]; rfl)
              rw [eP, List.length_append, List.length_singleton, show (V.ref r) = V.ref r from rfl]
              rw [List.map_append] at R7
              exact R7
            · rcases List.mem_append.mp z with z | z
              · exact nC z
              · exact nrC (List.mem_singleton.mp z).symm
      · rintro σ H4 ⟨v3, v5, v6, clb, rs, rfl, s4, hC4, lc, op, R, nC⟩
        exact ⟨_, rfl, q F rs H4 s4 R⟩
end
end Od

namespace Od
open PySem PySem.Spec PyProof.Rows L2
theorem RowsAt.old {H0 H H' : Hp} {p : Addr} {n : Nat} {f : Nat → List Int} {rs : List Addr} (R : RowsAt H H' p n f rs) (s : Same H0 H) : RowsAt H0 H' p n f rs :=
  ⟨R.len, R.nd, R.at_, s.free R.new, fun a h => s.free (R.rnew a h), R.row⟩
def spNear : Sp := fun vs H Q _ => ∃ (n : Nat) (l : Addr) (us : List V) (ts : List Pr), vs = [.int n, .ref l] ∧ n ≤ 40 ∧ H l = some (.lst us) ∧ Prs H us ts ∧ (∀ p ∈ ts, Tie n p) ∧ ts.Pairwise plt ∧ ts.length ≤ 1000 ∧
  ∀ p rs H', Same H H' → RowsAt H H' p n (fun i => nbr ts (i : Int)) rs → Q (.ref p) H'
section
variable {P : Program} {w : World} {K : PySem.W.Frag} {mg : Str → Option Value} {c : Cs} {base : Heap}
end
end Od

namespace Od
open PySem PySem.Spec PyProof.Rows L2
def spPart : Sp := fun vs H Q _ => ∃ (l th : Addr) (n : Nat) (ts : List Pr) (a : Int) (rs : List Addr) (kvs : List (L2.Key × V)) (ok : Int → Prop), vs = [.ref l, .int a, .ref th] ∧ n ≤ 40 ∧ (∀ p ∈ ts, Tie n p) ∧ 0 ≤ a ∧ a < (n : Int) ∧
  H l = some (.lst (rs.map V.ref)) ∧ rs.length = n ∧ (∀ (i : Nat) (r : Addr), rs[i]? = some r → H r = some (.lst ((nbr ts (i : Int)).map V.int))) ∧
  H th = some (.dK kvs) ∧ (∀ q : Int, 0 ≤ q → q < (n : Int) → ((valV kvs (Sum.inl q : L2.Key)).isSome = true ↔ ok q)) ∧
  ∀ (ns : List Int) (p : Addr) (H' : Hp), ns.Pairwise (· < ·) → (∀ k, k ∈ ns ↔ Rch (nbr ts) ok a k) → H p = none → Same H H' → H' p = some (.lst (ns.map V.int)) → Q (.ref p) H'
section
variable {P : Program} {w : World} {K : PySem.W.Frag} {mg : Str → Option Value} {c : Cs} {base : Heap}
end
end Od

namespace Od
open PySem PySem.Spec PyProof.Rows L2
/-- the places below i that are not taken away -/
def thr (ms : List Int) : Nat → List Int
  | 0 => []
  | i + 1 => if (i : Int) ∈ ms then thr ms i else thr ms i ++ [(i : Int)]
theorem thr_mem {ms : List Int} : ∀ {i : Nat} {q : Int}, q ∈ thr ms i ↔ 0 ≤ q ∧ q < (i : Int) ∧ q ∉ ms
  | 0, q => ⟨fun h => (by cases h), fun h => (by omega)⟩
  | i + 1, q => by
    unfold thr
    by_cases c : (i : Int) ∈ ms
    · rw [if_pos c, thr_mem]
      constructor
      · rintro ⟨a, b, d⟩; exact ⟨a, by omega, d⟩
      · rintro ⟨a, b, d⟩
        refine ⟨a, ?_, d⟩
        have : q ≠ (i : Int) := fun z => d (z ▸ c)
        omega
    · rw [if_neg c, List.mem_append, thr_mem, List.mem_singleton]
      constructor
      · rintro (⟨a, b, d⟩ | rfl)
        · exact ⟨a, by omega, d⟩
        · exact ⟨by omega, by omega, c⟩
      · rintro ⟨a, b, d⟩
        by_cases e : q = (i : Int)
        · exact .inr e
        · exact .inl ⟨a, by omega, d⟩
theorem thr_nd (ms : List Int) : ∀ i, (thr ms i).Nodup
  | 0 => List.nodup_nil
  | i + 1 => by
    unfold thr
    by_cases c : (i : Int) ∈ ms
    · rw [if_pos c]; exact thr_nd ms i
    · rw [if_neg c]
      refine List.nodup_append.mpr ⟨thr_nd ms i, List.pairwise_singleton _ _, fun a ha b hb e => ?_⟩
      rw [List.mem_singleton] at hb
      have := (thr_mem.mp ha).2.1
      omega
theorem thr_len (ms : List Int) : ∀ i, (thr ms i).length ≤ i
  | 0 => Nat.le_refl _
  | i + 1 => by
    have ih := thr_len ms i
    unfold thr
    by_cases c : (i : Int) ∈ ms
    · rw [if_pos c]; omega
    · rw [if_neg c, List.length_append, List.length_singleton]; omega
theorem merge_mk : ∀ (s2 s1 : List Int), (s1 ++ s2).Nodup → mergeK (mk s1) (mk s2) = mk (s1 ++ s2)
  | [], s1, _ => by rw [List.append_nil]; rfl
  | q :: s2, s1, nd => by
    have hq : q ∉ s1 := fun z => (List.nodup_append.mp nd).2.2 q z q List.mem_cons_self rfl
    have e : s1 ++ q :: s2 = (s1 ++ [q]) ++ s2 := by rw [List.append_assoc]; rfl
    rw [e] at nd ⊢
    rw [← merge_mk s2 (s1 ++ [q]) nd, ← mk_put hq]
    rfl
theorem mk_put' (sl : List Int) (q : Int) : ∃ sl', putK (mk sl) (Sum.inl q : L2.Key) (V.bl true) = mk sl' ∧ (∀ p, p ∈ sl' ↔ p ∈ sl ∨ p = q) ∧ sl'.length ≤ sl.length + 1 := by
  by_cases h : q ∈ sl
  · refine ⟨sl, ?_, fun p => ⟨.inl, fun z => z.elim id fun e => e ▸ h⟩, Nat.le_succ _⟩
    unfold putK
    rw [valV_any, mk_val, decide_eq_true h, if_pos rfl]
    unfold mk
    rw [List.map_map]
    refine List.map_congr_left fun x _ => ?_
    show (if (Sum.inl x : L2.Key) = Sum.inl q then ((Sum.inl x : L2.Key), V.bl true) else (Sum.inl x, V.bl true)) = _
    by_cases e : (Sum.inl x : L2.Key) = Sum.inl q
    · rw [if_pos e]
    · rw [if_neg e]
  · exact ⟨sl ++ [q], mk_put h, fun p => by rw [List.mem_append, List.mem_singleton], by rw [List.length_append]; exact Nat.le_refl _⟩
theorem atI_last {xs : List V} {v : V} : atI (xs ++ [v]) (-1) = some v := by
  unfold atI ixN
  rw [List.length_append, List.length_singleton, if_neg (by decide), if_pos (by omega)]
  have : (-1 + ((xs.length + 1 : Nat) : Int)).toNat = xs.length := by omega
  rw [this]
  show (xs ++ [v])[xs.length]? = some v
  rw [List.getElem?_append_right (Nat.le_refl _), Nat.sub_self]; rfl
end Od

namespace Od
open PySem PySem.Spec PyProof.Rows L2
def spPartsL : Sp := fun vs H Q _ => ∃ (n : Nat) (l t : Addr) (us : List V) (ts : List Pr) (ms : List Int), vs = [.int n, .ref l, .ref t] ∧ 1 ≤ n ∧ n ≤ 40 ∧ H l = some (.lst us) ∧ Prs H us ts ∧ (∀ p ∈ ts, Tie n p) ∧ ts.Pairwise plt ∧ ts.length ≤ 1000 ∧ H t = some (.lst (ms.map V.int)) ∧
  ∀ (p : Addr) (rs : List Addr) (H' : Hp), Same H H' → RowsAt H H' p (partsTo (nbr ts) n (okOf ms) n).length (prow ts n ms n) rs → Q (.ref p) H'
section
variable {P : Program} {w : World} {K : PySem.W.Frag} {mg : Str → Option Value} {c : Cs} {base : Heap}
end
end Od

namespace Od
open PySem PySem.Spec PyProof.Rows L2
/-! ### roads -/
/-- the places E, each with its own address, as the entries of a dict -/
def rk (ad : Int → Addr) (E : List Int) : List (L2.Key × V) := E.map fun x => (Sum.inl x, V.ref (ad x))
theorem rk_len (ad : Int → Addr) (E : List Int) : (rk ad E).length = E.length := List.length_map _
theorem rk_val (ad : Int → Addr) (q : Int) : ∀ E : List Int, valV (rk ad E) (Sum.inl q : L2.Key) = if q ∈ E then some (.ref (ad q)) else none
  | [] => rfl
  | p :: E => by
    show valV ((Sum.inl p, V.ref (ad p)) :: rk ad E) (Sum.inl q : L2.Key) = _
    by_cases e : p = q
    · subst e
      rw [valV_pos (by rfl), if_pos List.mem_cons_self]
    · rw [valV_neg (by intro z; injection z with z; exact e z), rk_val ad q E]
      by_cases m : q ∈ E
      · rw [if_pos m, if_pos (List.mem_cons_of_mem _ m)]
      · rw [if_neg m, if_neg fun z => (List.mem_cons.mp z).elim (fun z => e z.symm) m]
theorem rk_put {ad : Int → Addr} {E : List Int} {q : Int} (a : Addr) (h : q ∉ E) : putK (rk ad E) (Sum.inl q : L2.Key) (.ref a) = rk (fun x => if x = q then a else ad x) (E ++ [q]) := by
  have hn : valV (rk ad E) (Sum.inl q : L2.Key) = none := by rw [rk_val, if_neg h]
  rw [putK_new _ hn]
  unfold rk
  rw [List.map_append, List.map_cons, List.map_nil]
  dsimp only
  rw [if_pos rfl]
  congr 1
  refine List.map_congr_left fun x hx => ?_
  rw [if_neg (show ¬ x = q from fun z => h (z ▸ hx))]
theorem rk_merge (af : Int → Addr) : ∀ (F E : List Int) (ad : Int → Addr), F.Nodup → (∀ x ∈ F, x ∉ E) → mergeK (rk ad E) (rk af F) = rk (fun x => if x ∈ F then af x else ad x) (E ++ F)
  | [], E, ad, _, _ => by
    rw [List.append_nil]
    show rk ad E = _
    unfold rk
    refine List.map_congr_left fun x _ => ?_
    dsimp only
    rw [if_neg (by intro z; cases z)]
  | q :: F, E, ad, nd, off => by
    obtain ⟨nq, nF⟩ := List.nodup_cons.mp nd
    show mergeK (putK (rk ad E) (Sum.inl q : L2.Key) (.ref (af q))) (rk af F) = _
    rw [rk_put _ (off q List.mem_cons_self), rk_merge af F (E ++ [q]) _ nF fun x hx z => ?_]
    · rw [List.append_assoc]
      show rk _ (E ++ q :: F) = _
      unfold rk
      refine List.map_congr_left fun x _ => ?_
      dsimp only
      by_cases c : x ∈ F
      · rw [if_pos c, if_pos (List.mem_cons_of_mem _ c)]
      · rw [if_neg c]
        by_cases d : x = q
        · subst d; rw [if_pos rfl, if_pos List.mem_cons_self]
        · rw [if_neg d, if_neg fun z => (List.mem_cons.mp z).elim d c]
    · rcases List.mem_append.mp z with z | z
      · exact off x (List.mem_cons_of_mem _ hx) z
      · exact nq (List.mem_singleton.mp z ▸ hx)
/-- the roads stand at d -/
structure RAt (H : Hp) (d : Addr) (E : List Int) (rd : Int → List Int) (ad : Int → Addr) : Prop where
  kv : H d = some (.dK (rk ad E))
  row : ∀ x ∈ E, H (ad x) = some (.lst ((rd x).map V.int))
theorem RAt.ex {H H' : Hp} {d : Addr} {E : List Int} {rd : Int → List Int} {ad : Int → Addr} (r : RAt H d E rd ad) (e : Same H H') : RAt H' d E rd ad :=
  ⟨e _ _ r.kv, fun x hx => e _ _ (r.row x hx)⟩
theorem RAt.get {H : Hp} {d : Addr} {E : List Int} {rd : Int → List Int} {ad : Int → Addr} (r : RAt H d E rd ad) {q : Int} (h : q ∈ E) : DGet H d (.int q) (some (.ref (ad q))) := by
  have := DGet.k (k := Sum.inl q) r.kv
  rw [rk_val, if_pos h] at this
  exact this
theorem RAt.has {H : Hp} {d : Addr} {E : List Int} {rd : Int → List Int} {ad : Int → Addr} (r : RAt H d E rd ad) (q : Int) : DGet H d (.int q) (if q ∈ E then some (.ref (ad q)) else none) := by
  have := DGet.k (k := Sum.inl q) r.kv
  rw [rk_val] at this
  exact this
theorem isSome_if {q : Int} {E : List Int} {a : Addr} : (if q ∈ E then some (V.ref a) else none).isSome = decide (q ∈ E) := by
  by_cases h : q ∈ E
  · rw [if_pos h, decide_eq_true h]; rfl
  · rw [if_neg h, decide_eq_false h]; rfl
end Od

namespace Od
open PySem PySem.Spec PyProof.Rows L2
/-! ### roads round a ring -/
/-- those of l that have no road and are not on the other one -/
def nw (E o l : List Int) : List Int := l.filter fun p => decide (p ∉ E ∧ p ∉ o)
theorem nw_mem {E o l : List Int} {p : Int} : p ∈ nw E o l ↔ p ∈ l ∧ p ∉ E ∧ p ∉ o := by
  unfold nw; rw [List.mem_filter, decide_eq_true_eq]
theorem nw_snoc {E o l : List Int} {p : Int} : nw E o (l ++ [p]) = if p ∉ E ∧ p ∉ o then nw E o l ++ [p] else nw E o l := by
  unfold nw
  rw [List.filter_append]
  by_cases h : p ∉ E ∧ p ∉ o
  · rw [if_pos h]
    have e : decide (p ∉ E ∧ p ∉ o) = true := decide_eq_true h
    rw [show [p].filter (fun p => decide (p ∉ E ∧ p ∉ o)) = [p] by rw [List.filter_cons, if_pos e]; rfl]
  · rw [if_neg h]
    have e : ¬ decide (p ∉ E ∧ p ∉ o) = true := by rw [decide_eq_true_eq]; exact h
    rw [show [p].filter (fun p => decide (p ∉ E ∧ p ∉ o)) = [] by rw [List.filter_cons, if_neg e]; rfl, List.append_nil]
def spRound : Sp := fun vs H Q _ => ∃ (d : Addr) (E : List Int) (rd : Int → List Int) (ad : Int → Addr) (a b : Int), vs = [.ref d, .int a, .int b] ∧ RAt H d E rd ad ∧ a ∈ E ∧ b ∈ E ∧ E.length ≤ 40 ∧ (rd a).Nodup ∧ (rd a).length ≤ 40 ∧ (rd b).length ≤ 40 ∧
  ∀ (nr : Int → List Int) (p : Addr) (af : Int → Addr) (H' : Hp), (∀ (x : Int) (i : Nat), (rd a)[i]? = some x → x ∉ E → x ∉ rd b → nr x = rd b ++ ((rd a).drop i).reverse) → H p = none → Same H H' → RAt H' p (nw E (rd b) (rd a)) nr af → (∀ x ∈ nw E (rd b) (rd a), H (af x) = none) → Q (.ref p) H'
section
variable {P : Program} {w : World} {K : PySem.W.Frag} {mg : Str → Option Value} {c : Cs} {base : Heap}
theorem ok_round (T : Top K mg c) : Fd.Has P w K mg base CX0 1 "roads_round" ["roads", "one", "other"] spRound := by
  refine T.d_roads_round.ok sc_roads_round (fun vs H Q E h => ?_) (fun f cdv A outer s H vs Q E hr h => ?_)
  · obtain ⟨d, E, rd, ad, a, b, rfl, _⟩ := h; rfl
  · obtain ⟨d, E, rd, ad, a, b, rfl, R, ha, hb, lE, nda, la, lb, q⟩ := h
    refine ⟨_, (pss_cons (ps_set (i := 3) sc_roads_round.nd rfl (Or.inl rfl) pe_dnewK)
      (pss_cons (ps_for PassesOwn.never rfl (pi_enum (by rfl) T.n_enumerate (pa_cons (pe_dget (hu_of hr) (pv 0) (pv 1) (fun _ _ => rfl)) pa_nil)) (pg_tup rfl (pgs_cons (pg_name (i := 4) sc_roads_round.nd rfl (Or.inl rfl)) (pgs_cons (pg_name (i := 5) sc_roads_round.nd rfl (Or.inl rfl)) pgs_nil)))
      (pss_one (ps_if (PW.pt (pw_and (pt_cmp (pc_dnotin (hu_of hr) (pv 5) (pv 0))) (pw_and1 (pt_cmpR (r := rIn K true) op_notIn_seq (pv 5) (pe_dget (hu_of hr) (pv 0) (pv 2) (fun _ _ => rfl)) (by rfl)))))
        (pss_cons (ps_set (i := 6) sc_roads_round.nd rfl (Or.inl rfl) (pe_slice sl_list (pe_dget (hu_of hr) (pv 0) (pv 1) (fun _ _ => rfl)) (po_some (pv 4)) po_none))
          (pss_one (ps_asg (pe_op op_cat (pe_dget (hu_of hr) (pv 0) (pv 2) (fun _ _ => rfl)) (pe_revL (pv 6))) (pg_sub (pv 3) (pv 5) (set_dict (hu_of hr))))))
        pss_nil)))
      (pss_one (ps_ret (pv 3))))), ?_⟩
    dsimp only [cxOf, Cx.nox]
    refine fun M hM => ?_
    have sM := Same.new (o := .dK []) hM
    have eM : upd H M (.dK []) M = some (.dK []) := upd_same
    generalize upd H M (.dK []) = H0 at sM eM ⊢
    have R0 := R.ex sM
    have ea0 := R0.row a ha
    refine ⟨_, rfl, _, rfl, d, _, rfl, R0.get ha, ad a, _, rfl, SqL.of ea0, for_it (walk_enum (xs := (rd a).map V.int)) (fun i σ H' => ∃ v4 v5 v6 nr af, σ = [some (.ref d), some (.int a), some (.int b), some (.ref M), v4, v5, v6] ∧ Same H H' ∧ RAt H' M (nw E (rd b) ((rd a).take i)) nr af ∧ (∀ x ∈ nw E (rd b) ((rd a).take i), H (af x) = none) ∧ ∀ (x : Int) (j : Nat), j < i → (rd a)[j]? = some x → x ∉ E → x ∉ rd b → nr x = rd b ++ ((rd a).drop j).reverse)
      ⟨none, none, none, fun _ => [], fun _ => 0, rfl, sM, ⟨eM, fun x hx => by rw [List.take_zero] at hx; cases hx⟩, fun x hx => (by rw [List.take_zero] at hx; cases hx), fun x j hj => absurd hj (Nat.not_lt_zero _)⟩ (fun i σ H' _ ⟨_, _, _, _, _, _, e, _⟩ => SqL.of ((R.ex e).row a ha)) ?_ ?_⟩
    · rintro i v σ H1 H2 hi ⟨w4, w5, w6, nr, af, rfl, s1, RF, hnew, hnr⟩ ⟨t, x1, y1, rfl, ht, rfl, hx1, hy1⟩
      have hy1 : ((rd a).map V.int)[i]? = some y1 := hy1
      rw [List.getElem?_map] at hy1
      obtain ⟨y, hy, rfl⟩ := Option.map_eq_some_iff.mp hy1
      obtain rfl : V.int (i : Int) = x1 := Option.some.inj hx1
      have b1 := Same.new (o := .tup [V.int (i : Int), .int y]) ht
      have et : upd H1 t (.tup [V.int (i : Int), .int y]) t = some (.tup [V.int (i : Int), .int y]) := upd_same
      generalize upd H1 t (.tup [V.int (i : Int), .int y]) = H2 at b1 et ⊢
      have s2 := Same.trans s1 b1
      have R2 := R.ex s2
      have RF2 := RF.ex b1
      have il := (List.getElem?_eq_some_iff.mp hy).1
      have tk : (rd a).take (i + 1) = (rd a).take i ++ [y] := by rw [List.take_succ, hy]; rfl
      refine ⟨t, _, rfl, SqT.of et, rfl, _, _, rfl, _, _, rfl, rfl, ?_⟩
      have skip : ¬ (y ∉ E ∧ y ∉ rd b) → ∃ v4 v5 v6 nr af, [some (V.ref d), some (.int a), some (.int b), some (.ref M), some (.int (i : Int)), some (.int y), w6] = [some (V.ref d), some (.int a), some (.int b), some (.ref M), v4, v5, v6] ∧ Same H H2 ∧ RAt H2 M (nw E (rd b) ((rd a).take (i + 1))) nr af ∧ (∀ x ∈ nw E (rd b) ((rd a).take (i + 1)), H (af x) = none) ∧ ∀ (x : Int) (j : Nat), j < i + 1 → (rd a)[j]? = some x → x ∉ E → x ∉ rd b → nr x = rd b ++ ((rd a).drop j).reverse := fun no => by
        refine ⟨_, _, _, nr, af, rfl, s2, by rw [tk, nw_snoc, if_neg no]; exact RF2, by rw [tk, nw_snoc, if_neg no]; exact hnew, fun x j hj hx h1 h2 => ?_⟩
        by_cases e : j = i
        · subst e
          rw [hy] at hx; cases hx
          exact absurd ⟨h1, h2⟩ no
        · exact hnr x j (by omega) hx h1 h2
      refine ⟨_, rfl, _, rfl, d, _, rfl, R2.has y, _, rfl, ?_⟩
      rw [isSome_if]
      by_cases c1 : y ∈ E
      · rw [decide_eq_true c1]
        exact iteF (iteF (skip fun z => z.1 c1))
      rw [decide_eq_false c1]
      refine iteT ⟨_, rfl, _, rfl, _, rfl, d, _, rfl, R2.get hb, ad b, _, rfl, .inl (SqL.of (R2.row b hb)), rfl, flat_ints _, _, rfl, ?_⟩
      rw [inV_ints]
      by_cases c2 : y ∈ rd b
      · rw [decide_eq_true c2]
        exact iteF (skip fun z => z.2 c2)
      rw [decide_eq_false c2]
      refine iteT ?_
      -- the road round
      refine ⟨_, rfl, _, rfl, d, _, rfl, R2.get ha, _, rfl, _, rfl, ad a, _, rfl, SqL.of (R2.row a ha), fun pb hpb => ?_⟩
      have b2 := Same.new (o := .lst (cutV ((rd a).map V.int) (some (i : Int)) none)) hpb
      have epb : upd H2 pb (.lst (cutV ((rd a).map V.int) (some (i : Int)) none)) pb = some (.lst (((rd a).drop i).map V.int)) := by rw [upd_same, Sl.cut_from, List.map_drop]
      generalize upd H2 pb _ = H3 at b2 epb ⊢
      have R3 := R2.ex b2
      refine ⟨_, rfl, _, rfl, d, _, rfl, R3.get hb, _, rfl, pb, _, rfl, SqL.of epb, fun pc hpc => ?_⟩
      have b3 := Same.new (o := .lst (((rd a).drop i).map V.int).reverse) hpc
      have epc : upd H3 pc (.lst (((rd a).drop i).map V.int).reverse) pc = some (.lst (((rd a).drop i).reverse.map V.int)) := by rw [upd_same, List.map_reverse]
      generalize upd H3 pc _ = H4 at b3 epc ⊢
      have R4 := R3.ex b3
      refine ⟨ad b, pc, _, _, rfl, rfl, R4.row b hb, epc, len40 (by rw [List.length_map, List.length_map, List.length_reverse, List.length_drop]; omega), fun pd hpd => ?_⟩
      have b4 := Same.new (o := .lst ((rd b).map V.int ++ ((rd a).drop i).reverse.map V.int)) hpd
      have epd : upd H4 pd (.lst ((rd b).map V.int ++ ((rd a).drop i).reverse.map V.int)) pd = some (.lst ((rd b ++ ((rd a).drop i).reverse).map V.int)) := by rw [upd_same, List.map_append]
      generalize upd H4 pd _ = H5 at b4 epd ⊢
      have b25 := Same.trans (Same.trans b2 b3) b4
      have RF5 := RF2.ex b25
      have yF : y ∉ nw E (rd b) ((rd a).take i) := fun z => by
        obtain ⟨j, h1, h2⟩ := Ge.mem_take.mp (nw_mem.mp z).1
        have := Ge.nodup_at nda h2 hy
        omega
      have lF : (nw E (rd b) ((rd a).take i)).length ≤ 40 := by
        unfold nw
        refine Nat.le_trans (List.length_filter_le _ _) ?_
        rw [List.length_take]; omega
      refine ⟨_, rfl, _, rfl, M, _, rfl, DPut.k (k := .inl y) RF5.kv (by rw [rk_len, sizeLine_eq]; omega), ?_⟩
      rw [rk_put _ yF]
      have sN : Same H (upd H5 M (.dK (rk (fun x => if x = y then pd else af x) (nw E (rd b) ((rd a).take i) ++ [y])))) := Same.mut (Same.trans s2 b25) hM
      have keep : ∀ {l : Addr} {xs : List V}, H5 l = some (.lst xs) → (upd H5 M (.dK (rk (fun x => if x = y then pd else af x) (nw E (rd b) ((rd a).take i) ++ [y])))) l = some (.lst xs) := fun {l xs} e => by
        rw [upd_ne (ne_of e RF5.kv (fun z => nomatch z))]; exact e
      refine ⟨_, _, _, fun x => if x = y then rd b ++ ((rd a).drop i).reverse else nr x, fun x => if x = y then pd else af x, rfl, sN, ?_, fun x hx => ?_, fun x j hj hx h1 h2 => ?_⟩
      · rw [tk, nw_snoc, if_pos ⟨c1, c2⟩]
        refine ⟨upd_same, fun x hx => ?_⟩
        by_cases e : x = y
        · subst e
          rw [if_pos rfl, if_pos rfl]; exact keep epd
        · rw [if_neg e, if_neg e]
          rcases List.mem_append.mp hx with z | z
          · exact keep (RF5.row x z)
          · exact absurd (List.mem_singleton.mp z) e
      · dsimp only
        by_cases e : x = y
        · subst e
          rw [if_pos rfl]; exact (Same.trans s2 (Same.trans b2 b3)).free hpd
        · rw [if_neg e]
          rw [tk, nw_snoc, if_pos ⟨c1, c2⟩] at hx
          rcases List.mem_append.mp hx with z | z
          · exact hnew x z
          · exact absurd (List.mem_singleton.mp z) e
      · dsimp only
        by_cases e : j = i
        · subst e
          rw [hy] at hx; cases hx
          rw [if_pos rfl]
        · have ne : x ≠ y := fun z => by
            subst z
            exact e (Ge.nodup_at nda hx hy)
          rw [if_neg ne]
          exact hnr x j (by omega) hx h1 h2
    · rintro σ H1 ⟨v4, v5, v6, nr, af, rfl, s1, RF, hnew, hnr⟩
      rw [List.length_map, List.take_length] at RF hnew
      refine ⟨_, rfl, q nr M af H1 (fun x j hx h1 h2 => hnr x j ?_ hx h1 h2) hM s1 RF hnew⟩
      have := (List.getElem?_eq_some_iff.mp hx).1
      rw [List.length_map]; exact this
end
end Od

namespace Od
open PySem PySem.Spec PyProof.Rows L2
theorem ring_of {E : List Int} {rd n1 n2 : Int → List Int} {h t : Int} (nh : (rd h).Nodup) (nt : (rd t).Nodup)
    (h1 : ∀ (x : Int) (i : Nat), (rd h)[i]? = some x → x ∉ E → x ∉ rd t → n1 x = rd t ++ ((rd h).drop i).reverse)
    (h2 : ∀ (x : Int) (i : Nat), (rd t)[i]? = some x → x ∉ E → x ∉ rd h → n2 x = rd h ++ ((rd t).drop i).reverse) :
    Ge.Ring E rd h t (nw E (rd t) (rd h) ++ nw E (rd h) (rd t)) (Ge.put n1 (nw E (rd h) (rd t)) n2) := by
  refine ⟨?_, fun p => ?_, fun p hp i hi hn => ?_, fun p hp i hi hn => ?_⟩
  · refine List.nodup_append.mpr ⟨nh.filter _, nt.filter _, fun a ha b hb e => ?_⟩
    subst e
    exact (nw_mem.mp ha).2.2 (nw_mem.mp hb).1
  · rw [List.mem_append, nw_mem, nw_mem]
    constructor
    · rintro (⟨a, b, d⟩ | ⟨a, b, d⟩)
      · exact ⟨b, .inl ⟨a, d⟩⟩
      · exact ⟨b, .inr ⟨a, d⟩⟩
    · rintro ⟨b, ⟨a, d⟩ | ⟨a, d⟩⟩
      · exact .inl ⟨a, b, d⟩
      · exact .inr ⟨a, b, d⟩
  · rw [Ge.put_out fun z => (nw_mem.mp z).2.2 (List.mem_of_getElem? hi)]
    exact h1 p i hi hp hn
  · rw [Ge.put_in (nw_mem.mpr ⟨List.mem_of_getElem? hi, hp, hn⟩)]
    exact h2 p i hi hp hn
def spBy : Sp := fun vs H Q _ => ∃ (d m : Addr) (n : Nat) (qs : List Pr) (E : List Int) (rd : Int → List Int) (ad : Int → Addr) (h t : Int), vs = [.ref d, .ref m, .int h, .int t] ∧ RAt H d E rd ad ∧ H m = some (.lst (mrow n qs)) ∧ h ∈ E ∧ E.length ≤ 40 ∧ (∀ x ∈ E, (rd x).Nodup ∧ (rd x).length ≤ 40) ∧ 0 ≤ t ∧ t < (n : Int) ∧ (t ∈ E ∨ ∃ z, mo qs t = some z) ∧
  ∀ (F : List Int) (nr : Int → List Int) (p : Addr) (af : Int → Addr) (H' : Hp), Ge.Step (mo qs) E rd h t F nr → H p = none → Same H H' → RAt H' p F nr af → (∀ x ∈ F, H (af x) = none) → Q (.ref p) H'
section
variable {P : Program} {w : World} {K : PySem.W.Frag} {mg : Str → Option Value} {c : Cs} {base : Heap}
theorem ok_by (T : Top K mg c) : Fd.Has P w K mg base CX0 2 "roads_by" ["roads", "mates", "here", "there"] spBy := by
  have G_roads_round : Fd.Has P w K mg base CX0 1 "roads_round" ["roads", "one", "other"] spRound := ok_round T
  refine T.d_roads_by.ok sc_roads_by (fun vs H Q E h => ?_) (fun f cdv A outer s H vs Q E hr h => ?_)
  · obtain ⟨d, m, n, qs, E, rd, ad, a, b, rfl, _⟩ := h; rfl
  · obtain ⟨d, m, n, qs, E, rd, ad, a, b, rfl, R, hm, ha, lE, hrd, b0, b1, hb, q⟩ := h
    have hr_roads_round := hr
    refine ⟨_, (pss_cons (ps_if (pt_cmp (pc_din (hu_of hr) (pv 3) (pv 0)))
      (pss_cons (ps_set (i := 4) sc_roads_by.nd rfl (Or.inl rfl) (Fd.pe_f G_roads_round hr_roads_round (by rfl) (pa_cons (pv 0) (pa_cons (pv 2) (pa_cons (pv 3) pa_nil)))))
        (pss_cons (ps_expr (pe_bm PySem.F.plainAttrs_dict PySem.F.slot_dict_update PySem.F.type_dict_update Up.mt_updD (pv 4) (pa_cons (Fd.pe_f G_roads_round hr_roads_round (by rfl) (pa_cons (pv 0) (pa_cons (pv 3) (pa_cons (pv 2) pa_nil)))) pa_nil)))
        (pss_one (ps_ret (pv 4)))))
      pss_nil)
      (pss_cons (ps_set (i := 5) sc_roads_by.nd rfl (Or.inl rfl) (pe_ix ix_list (pv 1) (pv 3) (fun _ _ => rfl)))
      (pss_cons (ps_if (pt_cmp (pc_din (hu_of hr) (pv 5) (pv 0)))
      (pss_one (ps_ret pe_dnewK))
      pss_nil)
      (pss_one (ps_ret (pe_disp (pps_cons (pv 5) (pe_op op_cat (pe_dget (hu_of hr) (pv 0) (pv 2) (fun _ _ => rfl)) (pe_lst (pa_cons (pv 3) (pa_cons (pv 5) pa_nil)))) pps_nil) (by rfl) (by rfl) (fun z => by cases z) (by decide))))))), ?_⟩
    dsimp only [cxOf, Cx.nox]
    refine ⟨_, rfl, _, rfl, d, _, rfl, R.has b, _, rfl, ?_⟩
    rw [isSome_if]
    by_cases cb : b ∈ E
    · rw [decide_eq_true cb]
      have nda := (hrd a ha).1
      have ndb := (hrd b cb).1
      have la := (hrd a ha).2
      have lb := (hrd b cb).2
      refine iteT ⟨_, rfl, _, rfl, _, rfl, d, E, rd, ad, a, b, rfl, R, ha, cb, lE, nda, la, lb, fun n1 p1 af1 H1 hn1 hp1 s1 R1 new1 => ?_⟩
      have R' := R.ex s1
      refine ⟨_, rfl, .inr (.inr (.inl ⟨rfl, .inl ⟨_, R1.kv⟩⟩)), _, rfl, _, rfl, _, rfl, d, E, rd, ad, b, a, rfl, R', cb, ha, lE, ndb, lb, la, fun n2 p2 af2 H2 hn2 hp2 s2 R2 new2 => ?_⟩
      have R1' := R1.ex s2
      have n12 : p1 ≠ p2 := fun z => by rw [z] at R1; rw [R1.kv] at hp2; cases hp2
      have lw : ∀ (E o l : List Int), (nw E o l).length ≤ l.length := fun E o l => List.length_filter_le _ _
      have w1 := lw E (rd b) (rd a)
      have w2 := lw E (rd a) (rd b)
      refine ⟨p1, p2, _, _, rfl, rfl, n12, R1'.kv, R2.kv, by rw [rk_len, rk_len, sizeLine_eq]; omega, ?_⟩
      have ring := ring_of nda ndb hn1 hn2
      have off : ∀ x ∈ nw E (rd a) (rd b), x ∉ nw E (rd b) (rd a) := fun x hx hy => (nw_mem.mp hy).2.2 (nw_mem.mp hx).1
      have nf : (nw E (rd a) (rd b)).Nodup := ndb.filter _
      rw [rk_merge af2 _ _ af1 nf off]
      refine ⟨_, rfl, q _ _ p1 _ _ (.ring cb ring) hp1 (Same.mut (Same.trans s1 s2) hp1) ⟨upd_same, fun x hx => ?_⟩ fun x hx => ?_⟩
      rotate_left
      · by_cases c2 : x ∈ nw E (rd a) (rd b)
        · rw [if_pos c2]; exact s1.free (new2 x c2)
        · rw [if_neg c2]
          rcases List.mem_append.mp hx with z | z
          · exact new1 x z
          · exact absurd z c2
      have keep : ∀ {l : Addr} {xs : List V} {o : HO}, H2 l = some (.lst xs) → (∀ k, o = .dK k → upd H2 p1 o l = some (.lst xs)) := fun {l xs o} e k _ => by
        rw [upd_ne (ne_of e R1'.kv (fun z => nomatch z))]; exact e
      by_cases c2 : x ∈ nw E (rd a) (rd b)
      · rw [if_pos c2, Ge.put_in c2]
        exact keep (R2.row x c2) _ rfl
      · rw [if_neg c2, Ge.put_out c2]
        rcases List.mem_append.mp hx with z | z
        · exact keep (R1'.row x z) _ rfl
        · exact absurd z c2
    · rw [decide_eq_false cb]
      obtain ⟨z, hz⟩ := hb.resolve_left cb
      have mz := mo_some.mp hz
      obtain ⟨bn, rfl⟩ : ∃ bn : Nat, b = (bn : Int) := ⟨b.toNat, by omega⟩
      have atb : atI (mrow n qs) (bn : Int) = some (.int z) := by
        rw [← mz]; exact atI_nat (mrow_at (by omega))
      refine iteF ⟨_, rfl, _, rfl, m, _, _, _, rfl, rfl, SqL.of hm, atb, ?_⟩
      refine ⟨_, rfl, _, rfl, d, _, rfl, R.has z, _, rfl, ?_⟩
      rw [isSome_if]
      by_cases cz : z ∈ E
      · rw [decide_eq_true cz]
        refine iteT fun p hp => ?_
        exact q [] (fun _ => []) p (fun _ => 0) _ (.skip cb hz cz) hp (Same.new hp) ⟨upd_same, fun x hx => by cases hx⟩ fun x hx => by cases hx
      · rw [decide_eq_false cz]
        refine iteF fun p hp => ?_
        have s0 := Same.new (o := .dK []) hp
        have e0 : upd H p (.dK []) p = some (.dK []) := upd_same
        generalize upd H p (.dK []) = H0 at s0 e0 ⊢
        have R0 := R.ex s0
        refine ⟨_, rfl, _, rfl, _, rfl, d, _, rfl, R0.get ha, _, rfl, _, rfl, (by show 2 ≤ sizeLine; decide), fun p1 hp1 => ?_⟩
        have b1 := Same.new (o := .lst [V.int (bn : Int), .int z]) hp1
        have e1 : upd H0 p1 (.lst [V.int (bn : Int), .int z]) p1 = some (.lst ([(bn : Int), z].map V.int)) := upd_same
        generalize upd H0 p1 (.lst [V.int (bn : Int), .int z]) = H1 at b1 e1 ⊢
        have R1 := R0.ex b1
        have la := (hrd a ha).2
        refine ⟨ad a, p1, _, _, rfl, rfl, R1.row a ha, e1, len40 (by simp; omega), fun p2 hp2 => ?_⟩
        have b2 := Same.new (o := .lst ((rd a).map V.int ++ [(bn : Int), z].map V.int)) hp2
        have e2 : upd H1 p2 (.lst ((rd a).map V.int ++ [(bn : Int), z].map V.int)) p2 = some (.lst ((rd a ++ [(bn : Int), z]).map V.int)) := by rw [upd_same, List.map_append]
        generalize upd H1 p2 _ = H2 at b2 e2 ⊢
        have b02 := Same.trans b1 b2
        refine ⟨b02 _ _ e0, [(Sum.inl z, .ref p2)], rfl, (by show 1 ≤ 15; decide), ?_⟩
        refine q [z] (fun _ => rd a ++ [(bn : Int), z]) p (fun _ => p2) _ (.grow cb hz cz rfl) hp (Same.mut (Same.trans s0 b02) hp) ⟨by rw [upd_same]; rfl, fun x hx => ?_⟩ fun x hx => (Same.trans s0 b1).free hp2
        rw [upd_ne (ne_of e2 (b02 _ _ e0) (fun z => nomatch z))]; exact e2
end
end Od

namespace Od
open PySem PySem.Spec PyProof.Rows L2
theorem rk_congr {ad ad' : Int → Addr} {E : List Int} (h : ∀ x ∈ E, ad x = ad' x) : rk ad E = rk ad' E := by
  unfold rk
  exact List.map_congr_left fun x hx => by rw [h x hx]
theorem if_ret {t : TT} {u w : TS} {D : Ends} {σ : St} {H : Hp} {R S : Hp → Prop} (h : ∀ Q' : Bool → Hp → Prop, (∀ H6, R H6 → Q' false H6) → (∀ H6, S H6 → Q' true H6) → t σ H Q') (k : ∀ H6, R H6 → w D σ H6) (r : ∀ H6, S H6 → u D σ H6) : tIfS t u w D σ H :=
  h _ (fun H6 r => by rw [if_neg Bool.false_ne_true]; exact k H6 r) fun H6 z => by rw [if_pos rfl]; exact r H6 z
/-- the end of a search that finds a way -/
theorem way_end {n : Nat} {ts qs : List Pr} {r : Int} {E : List Int} {rd : Int → List Int} {h t : Int} (g : Pg n ts qs) (hr : 0 ≤ r ∧ r < (n : Int)) (V : Ge.Sv (nbr ts) (mo qs) r E rd) (hh : h ∈ E) (ht : t ∈ nbr ts h) (htE : t ∉ E) (hn : mo qs t = none) :
    IsWay n ts qs (rd h ++ [t]) := by
  have R := V.road h hh
  have odd := R.odd
  have M := g.mt
  have rg := R.rng (nbr_rg g.tie) hr
  have off : t ∉ rd h := fun z => by
    obtain ⟨i, hi⟩ := List.getElem?_of_mem z
    obtain ⟨v, _, e, _⟩ := V.mate_in hh hi htE
    rw [hn] at e; cases e
  have len : (rd h ++ [t]).length = (rd h).length + 1 := by rw [List.length_append]; rfl
  have at1 : ∀ {i : Nat} {a : Int}, (rd h ++ [t])[i]? = some a → (i < (rd h).length ∧ (rd h)[i]? = some a) ∨ (i = (rd h).length ∧ a = t) := fun {i a} e => by
    by_cases c : i < (rd h).length
    · rw [List.getElem?_append_left c] at e; exact .inl ⟨c, e⟩
    · have hl := (List.getElem?_eq_some_iff.mp e).1
      rw [len] at hl
      obtain rfl : i = (rd h).length := by omega
      rw [List.getElem?_append_right (Nat.le_refl _), Nat.sub_self] at e
      exact .inr ⟨rfl, (Option.some.inj e).symm⟩
  refine ⟨fun m hm => ?_, List.nodup_append.mpr ⟨R.nd, List.pairwise_singleton _ _, fun a ha b hb e => off (by rw [← List.mem_singleton.mp hb, ← e]; exact ha)⟩, by omega, by omega, fun m hm => ?_, fun m hm => ?_, fun i a b h1 h2 => ?_⟩
  · rcases List.mem_append.mp hm with z | z
    · exact rg m z
    · rw [List.mem_singleton.mp z]; exact nbr_rng g.tie ht
  · rw [List.getElem?_append_left R.pos, R.fst] at hm; cases hm
    exact mo_none.mp V.alone
  · rw [len, show (rd h).length + 1 - 1 = (rd h).length by omega, List.getElem?_append_right (Nat.le_refl _), Nat.sub_self] at hm
    cases hm
    exact mo_none.mp hn
  · rcases at1 h1 with ⟨c1, e1⟩ | ⟨c1, e1⟩
    · rcases at1 h2 with ⟨c2, e2⟩ | ⟨c2, e2⟩
      · refine ⟨R.adj i a b e1 e2, ?_⟩
        constructor
        · intro k
          apply Classical.byContradiction
          intro c
          have k := mo_some.mpr k
          by_cases i0 : i = 0
          · subst i0
            rw [R.fst] at e1; cases e1
            rw [V.alone] at k; cases k
          · obtain ⟨j, rfl⟩ : ∃ j, i = j + 1 := ⟨i - 1, by omega⟩
            obtain ⟨u, hu, e⟩ := R.prev M e1 (by omega)
            rw [k] at e; cases e
            have := Ge.nodup_at R.nd hu e2
            omega
        · intro o
          exact mo_some.mp (R.alt i a b o e1 e2)
      · have : i = (rd h).length - 1 := by omega
        rw [this, R.lst] at e1; cases e1
        subst e2
        refine ⟨ht, fun k => ?_, fun o => by omega⟩
        have := M.sym (mo_some.mpr k)
        rw [hn] at this; cases this
    · rcases at1 h2 with ⟨c2, e2⟩ | ⟨c2, e2⟩ <;> omega
/-- where a search stands: the roads at d, what waits at l -/
structure WS (H : Hp) (d l : Addr) (ts qs : List Pr) (r : Int) (E : List Int) (rd : Int → List Int) (ad : Int → Addr) (W : List Int) : Prop where
  R : RAt H d E rd ad
  wt : H l = some (.lst (W.map V.int))
  far : ∀ x ∈ E, ad x ≠ l
  sv : Ge.Sv (nbr ts) (mo qs) r E rd
  nd : E.Nodup
  sub : ∀ x ∈ W, x ∈ E
def spFrom (C : Addr) : Sp := fun vs H Q _ => ∃ (x m : Addr) (r : Int) (n : Nat) (ts qs : List Pr), vs = [.ref x, .ref m, .int r] ∧ NetAt C H x n ts ∧ H m = some (.lst (mrow n qs)) ∧ Pg n ts qs ∧ 0 ≤ r ∧ r < (n : Int) ∧ mo qs r = none ∧
  (∀ (ms : List Int) (p : Addr) (H' : Hp), IsWay n ts qs ms → H p = none → Same H H' → H' p = some (.lst (ms.map V.int)) → Q (.ref p) H') ∧ ((∃ F, Ge.Srch n (nbr ts) (mo qs) r F) → ∀ H', Same H H' → Q .non H')
section
variable {P : Program} {w : World} {K : PySem.W.Frag} {mg : Str → Option Value} {c : Cs} {base : Heap}
theorem ok_from (T : Top K mg c) : Fd.Has P w K mg base CX0 4 "way_from" ["net", "mates", "root"] (spFrom c.Net) := by
  have G_Net_beside : Fd.MHas P w K mg base (L2N.CX P w) 3 c.Net "beside" ["self", "place"] (spBeside c.Net c.NoPlace) := ok_beside T
  have G_roads_by : Fd.Has P w K mg base CX0 2 "roads_by" ["roads", "mates", "here", "there"] spBy := ok_by T
  refine T.d_way_from.ok sc_way_from (fun vs H Q E h => ?_) (fun f cdv A outer s H vs Q E hr h => ?_)
  · obtain ⟨x, m, r, n, ts, qs, rfl, _⟩ := h; rfl
  · obtain ⟨x, m, r, n, ts, qs, rfl, N, hm, g, r0, r1, hrn, qw, qn⟩ := h
    have hr_Net_beside := hr
    have hr_roads_by := hr.mono (show 2 ≤ 3 by decide)
    have n40 := N.hi
    have G := gr_nbr g.tie
    have M := g.mt
    have hn : ∀ {p q : Int}, q ∈ nbr ts p → 0 ≤ q ∧ q < (n : Int) := nbr_rg g.tie
    refine ⟨_, (pss_cons (ps_set (i := 3) sc_way_from.nd rfl (Or.inl rfl) (pe_disp (pps_cons (pv 2) (pe_lst (pa_cons (pv 2) pa_nil)) pps_nil) (by rfl) (by rfl) (fun z => by cases z) (by decide)))
      (pss_cons (ps_set (i := 4) sc_way_from.nd rfl (Or.inl rfl) (pe_lst (pa_cons (pv 2) pa_nil)))
      (pss_cons (ps_while PassesOwn.never (pt_truth (pv 4) (by intro _; rfl))
      (pss_cons (ps_set (i := 5) sc_way_from.nd rfl (Or.inl rfl) (pe_bm0 PySem.F.plainAttrs_list PySem.F.slot_list_pop PySem.F.type_list_pop mt_pop (pv 4)))
        (pss_one (ps_for PassesOwn.never rfl (pi_list (Fd.pe_mN G_Net_beside (pv 0) T.cl_Net hr_Net_beside Fd.pass00 (pa_cons (pv 5) pa_nil))) (pg_name (i := 6) sc_way_from.nd rfl (Or.inl rfl))
        (pss_cons (ps_if (PW.pt (pw_and (pt_cmp (pc_dnotin (hu_of hr) (pv 6) (pv 3))) (pw_and1 (pt_cmpR op_isN (pe_ix ix_list (pv 1) (pv 6) (fun _ _ => rfl)) pe_non (nomark _)))))
          (pss_one (ps_ret (pe_op op_cat (pe_dget (hu_of hr) (pv 3) (pv 5) (fun _ _ => rfl)) (pe_lst (pa_cons (pv 6) pa_nil)))))
          pss_nil)
          (pss_cons (ps_set (i := 7) sc_way_from.nd rfl (Or.inl rfl) (Fd.pe_f G_roads_by hr_roads_by (by rfl) (pa_cons (pv 3) (pa_cons (pv 1) (pa_cons (pv 5) (pa_cons (pv 6) pa_nil))))))
          (pss_one (ps_lock (ps_for PassesOwn.never rfl (pi_keys (pv 7)) (pg_name (i := 8) sc_way_from.nd rfl (Or.inl rfl))
          (pss_cons (ps_asg (pe_dget (hu_of hr) (pv 7) (pv 8) (fun _ _ => rfl)) (pg_sub (pv 3) (pv 8) (set_dict (hu_of hr))))
            (pss_one (ps_expr (pe_bm PySem.F.plainAttrs_list PySem.F.slot_list_append PySem.F.type_list_append mt_append (pv 4) (pa_cons (pv 8) pa_nil))))))))))))))
      (pss_one (ps_ret pe_non))))), ?_⟩
    dsimp only [cxOf, Cx.nox]
    refine fun d hd => ?_
    have s0 := Same.new (o := .dK []) hd
    have e0 : upd H d (.dK []) d = some (.dK []) := upd_same
    generalize upd H d (.dK []) = H0 at s0 e0 ⊢
    refine ⟨_, rfl, _, rfl, (by show 1 ≤ sizeLine; decide), fun p1 hp1 => ?_⟩
    have b1 := Same.new (o := .lst [V.int r]) hp1
    have e1 : upd H0 p1 (.lst [V.int r]) p1 = some (.lst ([r].map V.int)) := upd_same
    generalize upd H0 p1 (.lst [V.int r]) = H1 at b1 e1 ⊢
    refine ⟨b1 _ _ e0, [(Sum.inl r, .ref p1)], rfl, (by show 1 ≤ 15; decide), ?_⟩
    have sd : Same H (upd H1 d (.dK (mergeK [] [(Sum.inl r, V.ref p1)]))) := Same.mut (Same.trans s0 b1) hd
    have ed : upd H1 d (.dK (mergeK [] [(Sum.inl r, V.ref p1)])) d = some (.dK (rk (fun _ => p1) [r])) := by rw [upd_same]; rfl
    have ep1 : upd H1 d (.dK (mergeK [] [(Sum.inl r, V.ref p1)])) p1 = some (.lst ([r].map V.int)) := by
      rw [upd_ne (ne_of e1 (b1 _ _ e0) (fun z => nomatch z))]; exact e1
    generalize upd H1 d (.dK (mergeK [] [(Sum.inl r, V.ref p1)])) = H2 at sd ed ep1 ⊢
    refine ⟨_, rfl, (by show 1 ≤ sizeLine; decide), fun wl hwl => ?_⟩
    have nwl : H wl = none := sd.free hwl
    have dwl : d ≠ wl := ne_of_none ed hwl
    have b3 := Same.new (o := .lst [V.int r]) hwl
    have ewl : upd H2 wl (.lst [V.int r]) wl = some (.lst ([r].map V.int)) := upd_same
    have S0 : WS (upd H2 wl (.lst [V.int r])) d wl ts qs r [r] (fun _ => [r]) (fun _ => p1) [r] :=
      ⟨⟨b3 _ _ ed, fun x hx => b3 _ _ ep1⟩, ewl, fun x _ => ne_of_none ep1 hwl, Ge.Sv.start hrn, List.pairwise_singleton _ _, fun x hx => hx⟩
    have s3 := Same.trans sd b3
    generalize upd H2 wl (.lst [V.int r]) = H3 at s3 S0 ⊢
    refine ⟨fun k σ H' => ∃ v5 v6 v7 v8 E rd ad W, σ = [some (.ref x), some (.ref m), some (.int r), some (.ref d), some (.ref wl), v5, v6, v7, v8] ∧ Same H H' ∧ WS H' d wl ts qs r E rd ad W ∧ Ge.Cl (nbr ts) (mo qs) E rd W (fun _ _ => False) ∧ k = 2 * (n - E.length) + W.length ∧ k ≤ 2 * n,
      ⟨_, none, none, none, none, [r], _, _, [r], rfl, s3, S0, Ge.Cl.start, rfl, by show 2 * (n - 1) + 1 ≤ 2 * n; omega⟩, ?_⟩
    rintro k σ HA ⟨v5, v6, v7, v8, E, rd, ad, W, rfl, sA, SA, cA, rfl, mb⟩
    refine ⟨_, rfl, _, .inl ⟨_, SqL.of SA.wt, rfl⟩, ?_⟩
    have rgE := SA.sv.rng hn ⟨r0, r1⟩
    have lenE : E.length ≤ n := int_few rgE SA.nd
    by_cases cw : W = []
    · subst cw
      dsimp only
      rw [if_neg (by simp)]
      exact qn ⟨_, SA.sv.srch G M cA.fin rgE⟩ HA sA
    · have hlen : 0 < W.length := List.length_pos_iff.mpr cw
      obtain ⟨y, hy⟩ : ∃ y, W[W.length - 1]? = some y := ⟨_, List.getElem?_eq_getElem (by omega)⟩
      have eW : W = W.dropLast ++ [y] := by
        have h2 := (List.dropLast_concat_getLast cw).symm
        have h3 : W.getLast cw = y := by
          have : W.getLast? = some y := by rw [List.getLast?_eq_getElem?]; exact hy
          rw [List.getLast?_eq_some_getLast cw] at this
          exact Option.some.inj this
        rw [h3] at h2; exact h2
      have yE : y ∈ E := SA.sub y (List.mem_of_getElem? hy)
      have yr := rgE y yE
      dsimp only
      rw [if_pos (by simpa using cw)]
      refine ⟨fun σ H' => ∃ v5 v6 v7 v8 E2 rd2 ad2 W2, σ = [some (.ref x), some (.ref m), some (.int r), some (.ref d), some (.ref wl), v5, v6, v7, v8] ∧ Same H H' ∧ WS H' d wl ts qs r E2 rd2 ad2 W2 ∧ Ge.Cl (nbr ts) (mo qs) E2 rd2 W2 (fun _ _ => False) ∧ 2 * (n - E2.length) + W2.length < 2 * (n - E.length) + W.length, ?_, ?_⟩
      · rintro σ' H' ⟨v5, v6, v7, v8, E2, rd2, ad2, W2, e1, e2, e3, e4, e5⟩
        exact ⟨_, e5, v5, v6, v7, v8, E2, rd2, ad2, W2, e1, e2, e3, e4, rfl, by omega⟩
      have dl : W.dropLast.length = W.length - 1 := List.length_dropLast
      have C1 : Ge.Cl (nbr ts) (mo qs) E rd W.dropLast (fun x z => x = y ∧ z ∈ (nbr ts y).drop 0) := by
        rw [eW] at cA
        exact cA.pop G
      refine ⟨_, rfl, .inl ⟨rfl, _, SqL.of SA.wt⟩, wl, _, V.int y, rfl, rfl, SA.wt, by rw [List.length_map, List.getElem?_map, hy]; rfl, ?_⟩
      have sB : Same H (upd HA wl (.lst (W.map V.int).dropLast)) := Same.mut sA nwl
      have SB : WS (upd HA wl (.lst (W.map V.int).dropLast)) d wl ts qs r E rd ad W.dropLast :=
        ⟨⟨by rw [upd_ne dwl]; exact SA.R.kv, fun z hz => by rw [upd_ne (SA.far z hz)]; exact SA.R.row z hz⟩, by rw [upd_same, List.map_dropLast], SA.far, SA.sv, SA.nd, fun z hz => SA.sub z (List.dropLast_subset _ hz)⟩
      generalize upd HA wl (.lst (W.map V.int).dropLast) = HB at sB SB ⊢
      have NB := N.ex sB
      obtain ⟨dx, lt, ln, us, rs, a1, _⟩ := NB.at_
      obtain ⟨yn, rfl⟩ : ∃ yn : Nat, y = (yn : Int) := ⟨y.toNat, by omega⟩
      refine ⟨_, rfl, x, dx, _, rfl, a1, nf_beside _ _ _, _, rfl, x, n, ts, _, _, rfl, NB, .int _, fun i e hi D0 hD0 => ?_, fun z => ?_⟩
      rotate_left
      · have : isPl (.int (yn : Int)) n = true := decide_eq_true ⟨by omega, by omega⟩
        rw [this] at z; cases z
      injection e with e
      obtain rfl : yn = i := by omega
      have nD0 : H D0 = none := sB.free hD0
      have bD := Same.new (o := .lst ((nbr ts (yn : Int)).map V.int)) hD0
      have eD : upd HB D0 (.lst ((nbr ts (yn : Int)).map V.int)) D0 = some (.lst ((nbr ts (yn : Int)).map V.int)) := upd_same
      have dD : D0 ≠ d := fun z => by rw [z, SB.R.kv] at hD0; cases hD0
      have wD : D0 ≠ wl := fun z => by rw [z, SB.wt] at hD0; cases hD0
      have SC : WS (upd HB D0 (.lst ((nbr ts (yn : Int)).map V.int))) d wl ts qs r E rd ad W.dropLast := ⟨SB.R.ex bD, bD _ _ SB.wt, SB.far, SB.sv, SB.nd, SB.sub⟩
      have sC := Same.trans sB bD
      generalize upd HB D0 (.lst ((nbr ts (yn : Int)).map V.int)) = HC at eD SC sC ⊢
      refine ⟨D0, rfl, ⟨_, SqL.of eD⟩, for_list (K := K) (a := D0) (xs := (nbr ts (yn : Int)).map V.int) (fun i σ H' => ∃ v6 v7 v8 E2 rd2 ad2 W2, σ = [some (.ref x), some (.ref m), some (.int r), some (.ref d), some (.ref wl), some (.int (yn : Int)), v6, v7, v8] ∧ Same H H' ∧ H' D0 = some (.lst ((nbr ts (yn : Int)).map V.int)) ∧ WS H' d wl ts qs r E2 rd2 ad2 W2 ∧ (yn : Int) ∈ E2 ∧
          Ge.Cl (nbr ts) (mo qs) E2 rd2 W2 (fun x z => x = (yn : Int) ∧ z ∈ (nbr ts (yn : Int)).drop i) ∧ 2 * (n - E2.length) + W2.length < 2 * (n - E.length) + W.length)
        ⟨v6, v7, v8, E, rd, ad, W.dropLast, rfl, sC, eD, SC, yE, C1, by omega⟩ (fun i σ H' _ ⟨_, _, _, _, _, _, _, _, _, e, _⟩ => SqL.of e) ?_ ?_⟩
      · rintro i z σ H4 hi ⟨v6, v7, v8, E2, rd2, ad2, W2, rfl, s4, eD4, S4, y4, C4, ms⟩
        rw [List.getElem?_map] at hi
        obtain ⟨t, ht, rfl⟩ := Option.map_eq_some_iff.mp hi
        have tn := List.mem_of_getElem? ht
        have tr := hn tn
        have rg4 := S4.sv.rng hn ⟨r0, r1⟩
        have len4 : E2.length ≤ n := int_few rg4 S4.nd
        have atM : atI (mrow n qs) t = some (mateOf qs t) := by
          have q1 := atI_nat (mrow_at (n := n) (ps := qs) (i := t.toNat) (by omega))
          rw [show ((t.toNat : Nat) : Int) = t by omega] at q1; exact q1
        have hm4 := s4 _ _ hm
        have rds : ∀ x ∈ E2, (rd2 x).Nodup ∧ (rd2 x).length ≤ 40 := fun x hx => ⟨(S4.sv.road x hx).nd, Nat.le_trans (S4.sv.len hn ⟨r0, r1⟩ hx) n40⟩
        refine tsq (if_ret (R := fun H6 => H6 = H4 ∧ (t ∈ E2 ∨ ∃ z, mo qs t = some z)) (S := fun H6 => H6 = H4 ∧ t ∉ E2 ∧ mo qs t = none) (fun Q' hf htr => ?_) (fun H6 h6 => ?_) fun H6 h6 => ?_)
        · refine ⟨_, rfl, _, rfl, d, _, rfl, S4.R.has t, _, rfl, ?_⟩
          rw [isSome_if]
          by_cases c1 : t ∈ E2
          · rw [decide_eq_true c1]
            exact iteF (hf _ ⟨rfl, .inl c1⟩)
          · rw [decide_eq_false c1]
            refine iteT ⟨_, rfl, _, rfl, m, _, _, _, rfl, rfl, SqL.of hm4, atM, rfl, _, rfl, ?_⟩
            by_cases c2 : mateOf qs t = .non
            · rw [decide_eq_true c2]
              exact htr _ ⟨rfl, c1, mo_none.mpr c2⟩
            · rw [decide_eq_false c2]
              refine hf _ ⟨rfl, .inr ?_⟩
              rcases mate_kind qs t with h | ⟨k, h⟩
              · exact absurd h c2
              · exact ⟨k, mo_some.mpr h⟩
        · obtain ⟨rfl, hb⟩ := h6
          refine tnx ?_
          dsimp only
          refine ⟨_, rfl, _, rfl, _, rfl, _, rfl, d, m, n, qs, E2, rd2, ad2, (yn : Int), t, rfl, S4.R, hm4, y4, by omega, rds, tr.1, tr.2, hb, fun F nr p af H5 st hp s5 R5 new5 => ?_⟩
          have R4' := S4.R.ex s5
          have wt5 := s5 _ _ S4.wt
          have eD5 := s5 _ _ eD4
          have s05 := Same.trans s4 s5
          have np : H p = none := s4.free hp
          have pd : p ≠ d := fun z => by rw [z, S4.R.kv] at hp; cases hp
          have pl : p ≠ wl := fun z => by rw [z, S4.wt] at hp; cases hp
          have pD : p ≠ D0 := fun z => by rw [z, eD4] at hp; cases hp
          have ndE := (List.nodup_append.mpr ⟨S4.nd, st.off.1, fun a ha b hb' e => st.off.2 b hb' (e ▸ ha)⟩ : (E2 ++ F).Nodup)
          have sv5 := st.sv G M S4.sv y4 tn
          have len5 : (E2 ++ F).length ≤ n := int_few (sv5.rng hn ⟨r0, r1⟩) ndE
          have cl5 := st.cl G M S4.sv C4 ht y4
          have farF : ∀ q ∈ F, af q ≠ wl := fun q hq z => by
            have := new5 q hq
            rw [z, S4.wt] at this; cases this
          rw [List.length_append] at len5
          have few : ∀ j, (F.take j).length ≤ F.length := fun j => by rw [List.length_take]; omega
          have subW : W2.length ≤ 2 * n + W.length := by omega
          have wlen : W.length ≤ 1000 ∨ True := .inr trivial
          refine ⟨p, _, R5.kv, trivial, fun od => ?_⟩
          refine ⟨_, rfl, p, od, rfl, .inl ⟨_, upd_same, for_it (walk_keys (kvs := rk af F)) (fun j σ H' => ∃ v8, σ = [some (.ref x), some (.ref m), some (.int r), some (.ref d), some (.ref wl), some (.int (yn : Int)), some (.int t), some (.ref p), v8] ∧ Same H H' ∧ H' D0 = some (.lst ((nbr ts (yn : Int)).map V.int)) ∧ H' p = some (.frz od (.dK (rk af F))) ∧ H' d = some (.dK (rk (fun q => if q ∈ F.take j then af q else ad2 q) (E2 ++ F.take j))) ∧ (∀ q ∈ E2, H' (ad2 q) = some (.lst ((rd2 q).map V.int))) ∧ (∀ q ∈ F, H' (af q) = some (.lst ((nr q).map V.int))) ∧ H' wl = some (.lst ((W2 ++ F.take j).map V.int)))
            ⟨v8, rfl, Same.mut s05 np, by rw [upd_ne pD.symm]; exact eD5, upd_same, ?_, fun q hq => ?_, fun q hq => ?_, ?_⟩ (fun j σ H' _ ⟨_, _, _, _, e, _⟩ => e) ?_ ?_⟩⟩
          · rw [upd_ne pd.symm, List.take_zero, List.append_nil, R4'.kv]
            exact congrArg some (congrArg HO.dK (rk_congr fun q _ => by rw [if_neg (by intro z; cases z)]))
          · rw [upd_ne (ne_of (R4'.row q hq) R5.kv (fun z => nomatch z))]; exact R4'.row q hq
          · rw [upd_ne (ne_of (R5.row q hq) R5.kv (fun z => nomatch z))]; exact R5.row q hq
          · rw [upd_ne pl.symm, List.take_zero, List.append_nil]; exact wt5
          · rintro j v σ H7 H8 hj ⟨w8, rfl, s7, e1, e2, e3, e4, e5, e6⟩ ⟨rfl, kk, vv, hkv, rfl⟩
            unfold rk at hkv
            rw [List.getElem?_map] at hkv
            obtain ⟨q, hq, e⟩ := Option.map_eq_some_iff.mp hkv
            injection e with e7 e8
            subst e7 e8
            have qF := List.mem_of_getElem? hq
            have tk : F.take (j + 1) = F.take j ++ [q] := by rw [List.take_succ, hq]; rfl
            have jl := (List.getElem?_eq_some_iff.mp hq).1
            have qn : q ∉ E2 ++ F.take j := fun z => by
              rcases List.mem_append.mp z with z | z
              · exact st.off.2 q qF z
              · obtain ⟨i', h1, h2⟩ := Ge.mem_take.mp z
                have := Ge.nodup_at st.off.1 h2 hq
                omega
            have gF : DGet H8 p (.int q) (some (.ref (af q))) := .inl ⟨_, Sum.inl q, .inr ⟨od, e2⟩, rfl, by rw [rk_val, if_pos qF]⟩
            refine ⟨_, rfl, _, rfl, p, _, rfl, gF, _, rfl, _, rfl, d, _, rfl, DPut.k (k := .inl q) e3 (by rw [rk_len, List.length_append, sizeLine_eq]; have := few j; omega), ?_⟩
            rw [rk_put _ qn]
            have w1 : upd H8 d (.dK (rk (fun x => if x = q then af q else if x ∈ F.take j then af x else ad2 x) (E2 ++ F.take j ++ [q]))) wl = some (.lst ((W2 ++ F.take j).map V.int)) := by rw [upd_ne dwl.symm]; exact e6
            refine ⟨_, rfl, .inl ⟨rfl, _, SqL.of w1⟩, _, rfl, wl, _, _, rfl, rfl, w1, ?_, ?_⟩
            · rw [List.length_map, List.length_append, sizeLine_eq]
              have := few j
              have := S4.sub
              omega
            refine ⟨_, rfl, Same.mut (Same.mut s7 hd) nwl, ?_, ?_, ?_, fun q' hq' => ?_, fun q' hq' => ?_, ?_⟩
            · rw [upd_ne wD, upd_ne dD]; exact e1
            · rw [upd_ne pl, upd_ne pd]; exact e2
            · rw [upd_ne dwl, upd_same, tk, ← List.append_assoc]
              refine congrArg some (congrArg HO.dK (rk_congr fun q' _ => ?_))
              by_cases c1 : q' = q
              · subst c1; rw [if_pos rfl, if_pos (List.mem_append_right _ (List.mem_singleton.mpr rfl))]
              · rw [if_neg c1]
                by_cases c2 : q' ∈ F.take j
                · rw [if_pos c2, if_pos (List.mem_append_left _ c2)]
                · rw [if_neg c2, if_neg fun z => (List.mem_append.mp z).elim c2 fun z => c1 (List.mem_singleton.mp z)]
            · rw [upd_ne (S4.far q' hq'), upd_ne (ne_of (e4 q' hq') e3 (fun z => nomatch z))]; exact e4 q' hq'
            · rw [upd_ne (farF q' hq'), upd_ne (ne_of (e5 q' hq') e3 (fun z => nomatch z))]; exact e5 q' hq'
            · rw [upd_same, tk, ← List.append_assoc, List.map_append (l₁ := W2 ++ F.take j)]; rfl
          · rintro σ H7 ⟨w8, rfl, s7, e1, e2, e3, e4, e5, e6⟩
            rw [rk_len, List.take_length] at e3 e6
            refine ⟨e2, ?_⟩
            have nq : ∀ {b : Addr} {o : HO}, H7 b = some o → (o ≠ .frz od (.dK (rk af F))) → upd H7 p (.dK (rk af F)) b = some o := fun {b o} e ne => by
              rw [upd_ne fun z => ne (by rw [z, e2] at e; exact (Option.some.inj e).symm)]; exact e
            refine ⟨_, _, _, E2 ++ F, Ge.put rd2 F nr, fun q => if q ∈ F then af q else ad2 q, W2 ++ F, rfl, Same.mut s7 np, nq e1 (fun z => nomatch z), ⟨⟨nq e3 (fun z => nomatch z), fun q hq => ?_⟩, nq e6 (fun z => nomatch z), fun q hq => ?_, sv5, ndE, fun q hq => ?_⟩, List.mem_append_left _ y4, cl5, ?_⟩
            · by_cases c : q ∈ F
              · rw [if_pos c, Ge.put_in c]; exact nq (e5 q c) (fun z => nomatch z)
              · rw [if_neg c, Ge.put_out c]
                exact nq (e4 q ((List.mem_append.mp hq).resolve_right c)) (fun z => nomatch z)
            · by_cases c : q ∈ F
              · rw [if_pos c]; exact farF q c
              · rw [if_neg c]; exact S4.far q ((List.mem_append.mp hq).resolve_right c)
            · rcases List.mem_append.mp hq with z | z
              · exact List.mem_append_left _ (S4.sub q z)
              · exact List.mem_append_right _ z
            · rw [List.length_append, List.length_append]; omega
        · obtain ⟨rfl, c1, c2⟩ := h6
          refine ⟨_, rfl, _, rfl, d, _, rfl, S4.R.get y4, _, rfl, (by show 1 ≤ sizeLine; decide), fun p1 hp1 => ?_⟩
          have b1 := Same.new (o := .lst [V.int t]) hp1
          have ly := (rds _ y4).2
          refine ⟨ad2 (yn : Int), p1, _, _, rfl, rfl, b1 _ _ (S4.R.row _ y4), upd_same, len40 (by simp; omega), fun p2 hp2 => ?_⟩
          have b2 := Same.new (o := .lst ((rd2 (yn : Int)).map V.int ++ [V.int t])) hp2
          have s6 := Same.trans s4 b1
          exact qw _ p2 _ (way_end g ⟨r0, r1⟩ S4.sv y4 tn c1 c2) (s6.free hp2) (Same.trans s6 b2) (by rw [upd_same, List.map_append]; rfl)
      · rintro σ H4 ⟨v6, v7, v8, E2, rd2, ad2, W2, rfl, s4, eD4, S4, y4, C4, ms⟩
        rw [List.length_map] at C4
        exact ⟨_, _, _, _, E2, rd2, ad2, W2, rfl, s4, S4, C4.round, ms⟩
end
end Od

namespace Od
open PySem PySem.Spec PyProof.Rows L2
theorem OkPairs.pg {H : Hp} {n : Nat} {ts qs : List Pr} {xs : List V} (o : OkPairs H n ts xs) (tie : ∀ p ∈ ts, Tie n p) (pm : qs.Perm (xs.map (prOf H))) : Pg n ts qs :=
  ⟨tie, fun p hp => by
    obtain ⟨v, hv, rfl⟩ := List.mem_map.mp (pm.mem_iff.mp hp)
    exact o.tied v hv, (ends_perm pm).nodup_iff.mpr o.one⟩
/-- all searches have come to their ends -/
theorem big_all {n : Nat} {ts qs : List Pr} (g : Pg n ts qs) (h : ∀ r : Int, 0 ≤ r → r < (n : Int) → mo qs r = none → ∃ F, Ge.Srch n (nbr ts) (mo qs) r F) : ∃ E, Ge.Big n (nbr ts) (mo qs) E := by
  have h' : ∀ r : Int, ∃ F : Int → Prop, (0 ≤ r ∧ r < (n : Int) ∧ mo qs r = none) → Ge.Srch n (nbr ts) (mo qs) r F := fun r => by
    by_cases c : 0 ≤ r ∧ r < (n : Int) ∧ mo qs r = none
    · obtain ⟨F, hF⟩ := h r c.1 c.2.1 c.2.2
      exact ⟨F, fun _ => hF⟩
    · exact ⟨fun _ => False, fun z => absurd z c⟩
  obtain ⟨F, hF⟩ := Classical.skolem.mp h'
  exact ⟨_, Ge.big_of (gr_nbr g.tie) g.mt (nbr_rg g.tie) F fun r h0 h1 h2 => hF r ⟨h0, h1, h2⟩⟩
theorem Pg.perm {n : Nat} {ts a b : List Pr} (g : Pg n ts a) (p : b.Perm a) : Pg n ts b := ⟨g.tie, fun z hz => g.sub z (p.mem_iff.mp hz), (ends_perm p).nodup_iff.mpr g.nd⟩
/-- what better tells of qs -/
def Told (n : Nat) (ts : List Pr) (H : Hp) (qs : List Pr) (v : V) : Prop := (∃ (l : Addr) (ms : List Int), v = .ref l ∧ H l = some (.lst (ms.map V.int)) ∧ ms.length ≤ 40 ∧ IsWay n ts qs ms) ∨ (v = .non ∧ ∃ E, Ge.Big n (nbr ts) (mo qs) E)
theorem IsWay.len {n : Nat} {ts qs : List Pr} {ms : List Int} (w : IsWay n ts qs ms) : ms.length ≤ n := int_few w.rg w.nd
def spBetter (C B : Addr) : Sp := fun vs H Q E => ∃ (x : Addr) (n : Nat) (ts : List Pr) (y : V) (t : Ty), vs = [.ref x, y] ∧ NetAt C H x n ts ∧ Kl H y t ∧
  ((∃ (xs : List V) (qs : List Pr), listOf H y = some xs ∧ OkPairs H n ts xs ∧ qs.Perm (xs.map (prOf H)) ∧ qs.Pairwise plt ∧ (∀ (ms : List Int) (p : Addr) (H' : Hp), IsWay n ts qs ms → H p = none → Same H H' → H' p = some (.lst (ms.map V.int)) → Q (.ref p) H') ∧ ((∃ E, Ge.Big n (nbr ts) (mo qs) E) → ∀ H', Same H H' → Q .non H')) ∨
  ((∀ xs, listOf H y = some xs → ¬ OkPairs H n ts xs) ∧ ∀ H', Same H H' → E (.ref B) none H'))
def spMost (C : Addr) : Sp := fun vs H Q _ => ∃ (x : Addr) (n : Nat) (ts : List Pr), vs = [.ref x] ∧ NetAt C H x n ts ∧
  ∀ (qs : List Pr) (E : Int → Prop) (p : Addr) (us : List V) (H' : Hp), Pg n ts qs → qs.Pairwise plt → Ge.Big n (nbr ts) (mo qs) E → H p = none → Same H H' → H' p = some (.lst us) → NewPrs H H' us qs → Q (.ref p) H'
section
variable {P : Program} {w : World} {K : PySem.W.Frag} {mg : Str → Option Value} {c : Cs} {base : Heap}
theorem ok_better (T : Top K mg c) : Fd.Has P w K mg base (L2N.CX P w) 6 "better" ["net", "pairs"] (spBetter c.Net c.BadPairs) := by
  have G_mates_in : Fd.Has P w K mg base (L2N.CX P w) 5 "mates_in" ["net", "pairs"] (spMates c.Net c.BadPairs) := ok_mates T
  have G_way_from : Fd.Has P w K mg base CX0 4 "way_from" ["net", "mates", "root"] (spFrom c.Net) := ok_from T
  refine T.d_better.okN sc_better (fun vs H Q E h => ?_) (fun f cdv A outer s H vs Q E hr h => ?_)
  · obtain ⟨x, n, ts, y, t, rfl, _⟩ := h; rfl
  · obtain ⟨x, n, ts, y, t, rfl, N, kl, hres⟩ := h
    have hr_mates_in := hr
    have hr_way_from := hr.mono (show 4 ≤ 5 by decide)
    have n40 := N.hi
    refine ⟨_, (pss_cons (ps_set (i := 2) sc_better.nd rfl (Or.inl rfl) (Fd.pe_fN G_mates_in hr_mates_in (by rfl) (L2N.passes_call (L2N.takes_of rfl rfl rfl rfl) fun _ _ _ _ h => h) (pa_cons (pv 0) (pa_cons (pv 1) pa_nil))))
      (pss_cons (ps_for (L2.passes_of rfl) rfl (pi_range1 (by rfl) T.n_range (pa_cons (pe_fld (pv 0) rfl) pa_nil)) (pg_name (i := 3) sc_better.nd rfl (Or.inl rfl))
      (pss_one (ps_if (pt_cmpR op_isN (pe_ix ix_list (pv 2) (pv 3) (fun _ _ => rfl)) pe_non (nomark _))
        (pss_cons (ps_set (i := 4) sc_better.nd rfl (Or.inl rfl) (Fd.pe_f G_way_from hr_way_from (by rfl) (pa_cons (pv 0) (pa_cons (pv 2) (pa_cons (pv 3) pa_nil)))))
          (pss_one (ps_if (pt_cmpR op_notN (pv 4) pe_non (nomark _))
          (pss_one (ps_ret (pv 4)))
          pss_nil)))
        pss_nil)))
      (pss_one (ps_ret pe_non)))), ?_⟩
    rcases hres with ⟨xs, qs, e, o, pm, up, qw, qn⟩ | ⟨z, q⟩
    rotate_left
    · exact ⟨_, rfl, _, rfl, x, n, ts, y, t, rfl, N, kl, .inr ⟨z, q⟩⟩
    have g := o.pg N.tie pm
    refine ⟨_, rfl, _, rfl, x, n, ts, y, t, rfl, N, kl, .inl ⟨xs, e, o, fun q' m H1 pm' up' hmn s1 hm => ?_⟩⟩
    obtain rfl : q' = qs := plt_one (pm'.trans pm.symm) up' up
    obtain ⟨dx, lt, ln, us, rs, a1, _⟩ := (N.ex s1).at_
    refine ⟨_, rfl, x, c.Net, dx, _, _, rfl, a1, T.cl_Net, T.a_Net_size, nf_size _ _ _, (n : Int), rfl, by omega, by omega, for_range (lo := 0) (n := ((n : Int)).toNat) (fun i σ H' => ∃ v3 v4, σ = [some (.ref x), some y, some (.ref m), v3, v4] ∧ Same H H' ∧ H' m = some (.lst (mrow n q')) ∧ ∀ r : Int, 0 ≤ r → r < (i : Int) → mo q' r = none → ∃ F, Ge.Srch n (nbr ts) (mo q') r F)
      ⟨none, none, rfl, s1, hm, fun r h0 h1 => (by omega)⟩ ?_ ?_⟩
    · rintro i σ H2 hi ⟨v3, v4, rfl, s2, hm2, go⟩
      rw [show (0 : Int) + (i : Int) = (i : Int) from Int.zero_add _]
      have atm : atI (mrow n q') (i : Int) = some (mateOf q' (i : Int)) := atI_nat (mrow_at (by omega))
      have next : (mo q' (i : Int) = none → ∃ F, Ge.Srch n (nbr ts) (mo q') (i : Int) F) → ∀ r : Int, 0 ≤ r → r < ((i + 1 : Nat) : Int) → mo q' r = none → ∃ F, Ge.Srch n (nbr ts) (mo q') r F := fun h r h0 h1 h2 => by
        by_cases e : r = (i : Int)
        · subst e; exact h h2
        · exact go r h0 (by omega) h2
      refine ⟨_, rfl, _, rfl, m, _, _, _, rfl, rfl, SqL.of hm2, atm, rfl, _, rfl, ?_⟩
      by_cases c1 : mateOf q' (i : Int) = .non
      · rw [decide_eq_true c1]
        refine iteT ⟨_, rfl, _, rfl, _, rfl, x, m, (i : Int), n, ts, q', rfl, N.ex s2, hm2, g, by omega, by omega, mo_none.mpr c1, fun ms p H3 wy hp s3 e3 => ?_, fun sr H3 s3 => ?_⟩
        · refine ⟨_, rfl, rfl, _, rfl, ?_⟩
          refine iteT ⟨_, rfl, qw ms p H3 wy (s2.free hp) (Same.trans s2 s3) e3⟩
        · refine ⟨_, rfl, rfl, _, rfl, ?_⟩
          exact iteF ⟨_, _, rfl, Same.trans s2 s3, s3 _ _ hm2, next fun _ => sr⟩
      · rw [decide_eq_false c1]
        exact iteF ⟨_, _, rfl, s2, hm2, next fun z => absurd (mo_none.mp z) c1⟩
    · rintro σ H2 ⟨v3, v4, rfl, s2, hm2, go⟩
      exact qn (big_all g fun r h0 h1 h2 => go r h0 (by omega) h2) H2 s2
theorem ok_most (T : Top K mg c) : Fd.Has P w K mg base CX0 7 "most" ["net"] (spMost c.Net) := by
  have G_better : Fd.Has P w K mg base (L2N.CX P w) 6 "better" ["net", "pairs"] (spBetter c.Net c.BadPairs) := ok_better T
  have G_turned : Fd.Has P w K mg base (L2N.CX P w) 6 "turned" ["net", "pairs", "way"] (spTurned c.Net c.BadWay) := ok_turned T
  refine T.d_most.ok sc_most (fun vs H Q E h => ?_) (fun f cdv A outer s H vs Q E hr h => ?_)
  · obtain ⟨x, n, ts, rfl, _⟩ := h; rfl
  · obtain ⟨x, n, ts, rfl, N, q⟩ := h
    have hr_better := hr
    have hr_turned := hr
    have n40 := N.hi
    refine ⟨_, (pss_cons (ps_set (i := 1) sc_most.nd rfl (Or.inl rfl) (pe_lst pa_nil))
      (pss_cons (ps_set (i := 2) sc_most.nd rfl (Or.inl rfl) (Fd.pe_fN G_better hr_better (by rfl) Fd.pass00 (pa_cons (pv 0) (pa_cons (pv 1) pa_nil))))
      (pss_cons (ps_while PassesOwn.never (pt_cmpR op_notN (pv 2) pe_non (nomark _))
      (pss_cons (ps_set (i := 1) sc_most.nd rfl (Or.inl rfl) (Fd.pe_fN G_turned hr_turned (by rfl) Fd.pass00 (pa_cons (pv 0) (pa_cons (pv 1) (pa_cons (pv 2) pa_nil)))))
        (pss_one (ps_set (i := 2) sc_most.nd rfl (Or.inl rfl) (Fd.pe_fN G_better hr_better (by rfl) Fd.pass00 (pa_cons (pv 0) (pa_cons (pv 1) pa_nil)))))))
      (pss_one (ps_ret (pv 1)))))), ?_⟩
    refine ⟨Nat.zero_le _, fun p hp => ?_⟩
    have s0 := Same.new (o := .lst []) hp
    have e0 : upd H p (.lst []) p = some (.lst []) := upd_same
    generalize upd H p (.lst []) = H0 at s0 e0 ⊢
    have g0 : Pg n ts [] := ⟨N.tie, fun z hz => (by cases hz), List.nodup_nil⟩
    have ok0 : ∀ {H' : Hp} {us : List V} {qs : List Pr}, Prs H' us qs → Pg n ts qs → OkPairs H' n ts us := fun pr g => ok_prs pr N.tie g.sub g.nd
    refine ⟨_, rfl, _, rfl, x, n, ts, _, .list, rfl, N.ex s0, kl_lst e0 (fun y hy => by cases hy), .inl ⟨[], [], listOf_lst e0, ok0 .nil g0, List.Perm.refl _, List.Pairwise.nil, fun ms pw H1 wy hpw s1 e1 => ?_, fun big H1 s1 => ?_⟩⟩
    · have wv : Told n ts H1 [] (.ref pw) := .inl ⟨pw, ms, rfl, e1, by have := wy.len; omega, wy⟩
      refine ⟨fun k σ H' => ∃ v pa us qs, σ = [some (.ref x), some (.ref pa), some v] ∧ Same H H' ∧ H pa = none ∧ H' pa = some (.lst us) ∧ NewPrs H H' us qs ∧ Pg n ts qs ∧ qs.Pairwise plt ∧ Told n ts H' qs v ∧ k = n - qs.length,
        ⟨_, _, p, [], [], rfl, Same.trans s0 s1, hp, s1 _ _ e0, .nil, g0, List.Pairwise.nil, wv, rfl⟩, ?_⟩
      rintro k σ H2 ⟨v, pa, us, qs, rfl, s2, npa, e2, np, g, up, wv, rfl⟩
      refine ⟨_, rfl, rfl, _, rfl, ?_⟩
      rcases wv with ⟨l, ms, rfl, el, lms, wy⟩ | ⟨rfl, E, big⟩
      · dsimp only
        rw [if_pos (show (!decide (V.ref l = V.non)) = true from rfl)]
        refine ⟨fun σ H' => ∃ v pa us qs2, σ = [some (.ref x), some (.ref pa), some v] ∧ Same H H' ∧ H pa = none ∧ H' pa = some (.lst us) ∧ NewPrs H H' us qs2 ∧ Pg n ts qs2 ∧ qs2.Pairwise plt ∧ Told n ts H' qs2 v ∧ n - qs2.length < n - qs.length, ?_, ?_⟩
        · rintro σ' H' ⟨v, pa, us, qs2, e1, e2, e3, e4, e5, e6, e7, e8, e9⟩
          exact ⟨_, e9, v, pa, us, qs2, e1, e2, e3, e4, e5, e6, e7, e8, rfl⟩
        have pr := np.prs
        refine ⟨_, rfl, _, rfl, _, rfl, x, n, ts, qs, _, _, .list, .list, us, rfl, N.ex s2, kl_lst e2 pr.kt, listOf_lst e2, ok0 pr g, ⟨.lst el, fun xs z => ?_⟩, by rw [pr.prOf], up, .inl ⟨ms, ⟨listOf_lst el, wy⟩, fun res pb ub H3 pm sd hpb s3 e3 np3 => ?_⟩⟩
        · rw [listOf_lst el] at z; cases z
          exact ⟨by rw [List.length_map]; omega, kd_ints⟩
        have pmT : res.Perm (trnd ms qs) := pm
        have g3 : Pg n ts res := (wy.pg g).perm pmT
        have up3 : res.Pairwise plt := plt_strict sd (ends_nd g3.nd)
        have l3 : res.length = qs.length + 1 := by rw [pmT.length_eq, trnd_len g wy]
        have c3 := g3.count
        have s03 := Same.trans s2 s3
        have npb : H pb = none := s2.free hpb
        have np3' : NewPrs H H3 ub res := np3.to s2 fun a o _ e => e
        have pr3 := np3.prs
        refine ⟨_, rfl, _, rfl, x, n, ts, _, .list, rfl, N.ex s03, kl_lst e3 pr3.kt, .inl ⟨ub, res, listOf_lst e3, ok0 pr3 g3, by rw [pr3.prOf], up3, fun ms4 p4 H4 wy4 hp4 s4 e4 => ?_, fun big H4 s4 => ?_⟩⟩
        · exact ⟨_, pb, ub, res, rfl, Same.trans s03 s4, npb, s4 _ _ e3, np3'.tups fun a xs e => s4 _ _ e, g3, up3, .inl ⟨p4, ms4, rfl, e4, by have := wy4.len; omega, wy4⟩, by omega⟩
        · exact ⟨_, pb, ub, res, rfl, Same.trans s03 s4, npb, s4 _ _ e3, np3'.tups fun a xs e => s4 _ _ e, g3, up3, .inr ⟨rfl, big⟩, by omega⟩
      · dsimp only
        rw [if_neg (show ¬ (!decide (V.non = V.non)) = true from Bool.false_ne_true)]
        exact ⟨_, rfl, q qs E pa us H2 g up big npa s2 e2 np⟩
    · have wv : Told n ts H1 [] .non := .inr ⟨rfl, big⟩
      refine ⟨fun k σ H' => ∃ v pa us qs, σ = [some (.ref x), some (.ref pa), some v] ∧ Same H H' ∧ H pa = none ∧ H' pa = some (.lst us) ∧ NewPrs H H' us qs ∧ Pg n ts qs ∧ qs.Pairwise plt ∧ Told n ts H' qs v ∧ k = n - qs.length,
        ⟨_, _, p, [], [], rfl, Same.trans s0 s1, hp, s1 _ _ e0, .nil, g0, List.Pairwise.nil, wv, rfl⟩, ?_⟩
      rintro k σ H2 ⟨v, pa, us, qs, rfl, s2, npa, e2, np, g, up, wv, rfl⟩
      refine ⟨_, rfl, rfl, _, rfl, ?_⟩
      rcases wv with ⟨l, ms, rfl, el, lms, wy⟩ | ⟨rfl, E, big⟩
      · dsimp only
        rw [if_pos (show (!decide (V.ref l = V.non)) = true from rfl)]
        refine ⟨fun σ H' => ∃ v pa us qs2, σ = [some (.ref x), some (.ref pa), some v] ∧ Same H H' ∧ H pa = none ∧ H' pa = some (.lst us) ∧ NewPrs H H' us qs2 ∧ Pg n ts qs2 ∧ qs2.Pairwise plt ∧ Told n ts H' qs2 v ∧ n - qs2.length < n - qs.length, ?_, ?_⟩
        · rintro σ' H' ⟨v, pa, us, qs2, e1, e2, e3, e4, e5, e6, e7, e8, e9⟩
          exact ⟨_, e9, v, pa, us, qs2, e1, e2, e3, e4, e5, e6, e7, e8, rfl⟩
        have pr := np.prs
        refine ⟨_, rfl, _, rfl, _, rfl, x, n, ts, qs, _, _, .list, .list, us, rfl, N.ex s2, kl_lst e2 pr.kt, listOf_lst e2, ok0 pr g, ⟨.lst el, fun xs z => ?_⟩, by rw [pr.prOf], up, .inl ⟨ms, ⟨listOf_lst el, wy⟩, fun res pb ub H3 pm sd hpb s3 e3 np3 => ?_⟩⟩
        · rw [listOf_lst el] at z; cases z
          exact ⟨by rw [List.length_map]; omega, kd_ints⟩
        have pmT : res.Perm (trnd ms qs) := pm
        have g3 : Pg n ts res := (wy.pg g).perm pmT
        have up3 : res.Pairwise plt := plt_strict sd (ends_nd g3.nd)
        have l3 : res.length = qs.length + 1 := by rw [pmT.length_eq, trnd_len g wy]
        have c3 := g3.count
        have s03 := Same.trans s2 s3
        have npb : H pb = none := s2.free hpb
        have np3' : NewPrs H H3 ub res := np3.to s2 fun a o _ e => e
        have pr3 := np3.prs
        refine ⟨_, rfl, _, rfl, x, n, ts, _, .list, rfl, N.ex s03, kl_lst e3 pr3.kt, .inl ⟨ub, res, listOf_lst e3, ok0 pr3 g3, by rw [pr3.prOf], up3, fun ms4 p4 H4 wy4 hp4 s4 e4 => ?_, fun big H4 s4 => ?_⟩⟩
        · exact ⟨_, pb, ub, res, rfl, Same.trans s03 s4, npb, s4 _ _ e3, np3'.tups fun a xs e => s4 _ _ e, g3, up3, .inl ⟨p4, ms4, rfl, e4, by have := wy4.len; omega, wy4⟩, by omega⟩
        · exact ⟨_, pb, ub, res, rfl, Same.trans s03 s4, npb, s4 _ _ e3, np3'.tups fun a xs e => s4 _ _ e, g3, up3, .inr ⟨rfl, big⟩, by omega⟩
      · dsimp only
        rw [if_neg (show ¬ (!decide (V.non = V.non)) = true from Bool.false_ne_true)]
        exact ⟨_, rfl, q qs E pa us H2 g up big npa s2 e2 np⟩
end
end Od

namespace Od
open PySem PySem.Spec PyProof.Rows L2
/-- those pairs that do not have v -/
def wo (v : Int) (qs : List Pr) : List Pr := qs.filter fun p => decide (v ∉ [p.1, p.2])
theorem wo_mem {v : Int} {qs : List Pr} {p : Pr} : p ∈ wo v qs ↔ p ∈ qs ∧ v ≠ p.1 ∧ v ≠ p.2 := by
  unfold wo; rw [List.mem_filter, decide_eq_true_eq]; simp
theorem wo_snoc {v : Int} {qs : List Pr} {p : Pr} : wo v (qs ++ [p]) = if v ∈ [p.1, p.2] then wo v qs else wo v qs ++ [p] := by
  unfold wo
  rw [List.filter_append]
  by_cases h : v ∈ [p.1, p.2]
  · rw [if_pos h]
    have e : ¬ decide (v ∉ [p.1, p.2]) = true := by rw [decide_eq_true_eq]; exact fun z => z h
    rw [show [p].filter (fun p : Pr => decide (v ∉ [p.1, p.2])) = [] by rw [List.filter_cons, if_neg e]; rfl, List.append_nil]
  · rw [if_neg h]
    have e : decide (v ∉ [p.1, p.2]) = true := decide_eq_true h
    rw [show [p].filter (fun p : Pr => decide (v ∉ [p.1, p.2])) = [p] by rw [List.filter_cons, if_pos e]; rfl]
theorem wo_ends {v : Int} {qs : List Pr} : v ∉ ends (wo v qs) := fun h => by
  obtain ⟨p, hp, e⟩ := mem_ends.mp h
  obtain ⟨_, h1, h2⟩ := wo_mem.mp hp
  exact e.elim h1 h2
theorem wo_len {v : Int} : ∀ {qs : List Pr}, (ends qs).Nodup → (wo v qs).length = if v ∈ ends qs then qs.length - 1 else qs.length
  | [], _ => rfl
  | p :: t, nd => by
    have nd' : (p.1 :: p.2 :: ends t).Nodup := nd
    obtain ⟨n1, nd2⟩ := List.nodup_cons.mp nd'
    obtain ⟨n2, n3⟩ := List.nodup_cons.mp nd2
    have ih := wo_len (v := v) n3
    have mem : v ∈ ends (p :: t) ↔ v = p.1 ∨ v = p.2 ∨ v ∈ ends t := by
      show v ∈ p.1 :: p.2 :: ends t ↔ _
      rw [List.mem_cons, List.mem_cons]
    by_cases c : v ∈ [p.1, p.2]
    · have c' : v = p.1 ∨ v = p.2 := by simpa using c
      have off : v ∉ ends t := fun z => by
        rcases c' with e | e
        · exact n1 (List.mem_cons_of_mem _ (e ▸ z))
        · exact n2 (e ▸ z)
      rw [if_neg off] at ih
      have e : ¬ decide (v ∉ [p.1, p.2]) = true := by rw [decide_eq_true_eq]; exact fun z => z c
      rw [if_pos (mem.mpr (c'.imp id .inl)), show wo v (p :: t) = wo v t by unfold wo; rw [List.filter_cons, if_neg e], ih]; rfl
    · have c1 : v ≠ p.1 := fun e => c (by rw [e]; exact List.mem_cons_self)
      have c2 : v ≠ p.2 := fun e => c (by rw [e]; exact List.mem_cons_of_mem _ List.mem_cons_self)
      have e : decide (v ∉ [p.1, p.2]) = true := decide_eq_true c
      rw [show wo v (p :: t) = p :: wo v t by unfold wo; rw [List.filter_cons, if_pos e], List.length_cons, ih]
      by_cases d : v ∈ ends t
      · rw [if_pos d, if_pos (mem.mpr (.inr (.inr d))), List.length_cons]
        have : 0 < t.length := by
          cases t with
          | nil => cases d
          | cons _ _ => exact Nat.zero_lt_succ _
        omega
      · rw [if_neg d, if_neg fun z => (mem.mp z).elim c1 fun z => z.elim c2 d, List.length_cons]
theorem wo_eq {v : Int} {qs : List Pr} (h : v ∉ ends qs) : wo v qs = qs := by
  unfold wo
  refine List.filter_eq_self.mpr fun p hp => decide_eq_true fun z => h (mem_ends.mpr ⟨p, hp, by simpa using z⟩)
section
variable {n : Nat} {ts qs : List Pr} {v : Int}
theorem wo_tie (tie : ∀ p ∈ ts, Tie (n : Int) p) : ∀ p ∈ wo v ts, Tie (n : Int) p := fun p hp => tie p (wo_mem.mp hp).1
theorem Pg.wo (g : Pg n ts qs) : Pg n (wo v ts) (wo v qs) := by
  refine ⟨wo_tie g.tie, fun p hp => ?_, ?_⟩
  · obtain ⟨h1, h2⟩ := wo_mem.mp hp
    exact wo_mem.mpr ⟨g.sub p h1, h2⟩
  · have key : ∀ {a b : List Pr}, a.Sublist b → (a.flatMap fun p => [p.1, p.2]).Sublist (b.flatMap fun p => [p.1, p.2]) := fun h => by
      induction h with
      | slnil => exact List.Sublist.refl _
      | cons p _ ih => rw [List.flatMap_cons]; exact ih.trans (List.sublist_append_right _ _)
      | cons_cons p _ ih => rw [List.flatMap_cons, List.flatMap_cons]; exact (List.Sublist.refl _).append ih
    exact List.Nodup.sublist (key List.filter_sublist) g.nd
/-- a pairing of the net without the ties of v -/
theorem Pg.from_wo (g : Pg n (Od.wo v ts) qs) (tie : ∀ p ∈ ts, Tie n p) : Pg n ts qs ∧ v ∉ ends qs :=
  ⟨⟨tie, fun p hp => (wo_mem.mp (g.sub p hp)).1, g.nd⟩, fun z => by
    obtain ⟨p, hp, e⟩ := mem_ends.mp z
    obtain ⟨_, h1, h2⟩ := wo_mem.mp (g.sub p hp)
    exact e.elim h1 h2⟩
/-- where others, a pair less, are greatest without the ties of v, no greatest pairing leaves v alone -/
theorem no_free (g : Pg n ts qs) (hv : v ∈ ends qs) {E E' : Int → Prop} (B : Ge.Big n (nbr ts) (mo qs) E) (B' : Ge.Big n (nbr (Od.wo v ts)) (mo (Od.wo v qs)) E') : ¬ E v := fun hE => by
  obtain ⟨N, MN, h0, hl⟩ := B.rch hE
  have tie' := wo_tie (v := v) g.tie
  have g' := g.wo (v := v)
  have MN' : Ge.Mt (nbr (Od.wo v ts)) N := by
    refine ⟨MN.sym, fun {p q} h => ?_⟩
    have pv : p ≠ v := fun e => by rw [e, h0] at h; cases h
    have qv : q ≠ v := fun e => by
      have := MN.sym h
      rw [e, h0] at this; cases this
    rcases (nbr_mem g.tie).mp (MN.tie h) with z | z
    · exact (nbr_mem tie').mpr (.inl (wo_mem.mpr ⟨z, fun e => pv e.symm, fun e => qv e.symm⟩))
    · exact (nbr_mem tie').mpr (.inr (wo_mem.mpr ⟨z, fun e => qv e.symm, fun e => pv e.symm⟩))
  have l1 := B'.least (gr_nbr tie') g'.mt (nbr_rg tie') MN'
  have c1 := g.count
  have c2 := g'.count
  have wl := wo_len (v := v) g.nd
  rw [if_pos hv] at wl
  have : 0 < qs.length := by
    cases qs with
    | nil => cases hv
    | cons _ _ => exact Nat.zero_lt_succ _
  omega
/-- a pairing as great that leaves v alone -/
theorem is_free (g : Pg n ts qs) {E : Int → Prop} (B : Ge.Big n (nbr ts) (mo qs) E) {res : List Pr} (gr : Pg n ts res) (hl : res.length = qs.length) (hv : v ∉ ends res) (h0 : 0 ≤ v) (h1 : v < (n : Int)) : E v := by
  have c1 := g.count
  have c2 := gr.count
  exact B.alone (gr_nbr g.tie) g.mt (nbr_rg g.tie) gr.mt (by omega) h0 h1 (mo_free.mpr hv)
end
def spWo : Sp := fun vs H Q _ => ∃ (l : Addr) (v : Int) (us : List V) (qs : List Pr), vs = [.ref l, .int v] ∧ H l = some (.lst us) ∧ Prs H us qs ∧ us.length ≤ 1000 ∧
  ∀ (p : Addr) (us' : List V) (H' : Hp), H p = none → Same H H' → H' p = some (.lst us') → Prs H' us' (wo v qs) → Q (.ref p) H'
def spFreed (C : Addr) : Sp := fun vs H Q _ => ∃ (x l : Addr) (v : Int) (n : Nat) (ts qs : List Pr) (us : List V) (E : Int → Prop), vs = [.ref x, .ref l, .int v] ∧ NetAt C H x n ts ∧ H l = some (.lst us) ∧ Prs H us qs ∧ Pg n ts qs ∧ qs.Pairwise plt ∧ Ge.Big n (nbr ts) (mo qs) E ∧ 0 ≤ v ∧ v < (n : Int) ∧
  (∀ (res : List Pr) (p : Addr) (us' : List V) (H' : Hp), Pg n ts res → res.Pairwise plt → res.length = qs.length → v ∉ ends res → E v → H p = none → Same H H' → H' p = some (.lst us') → Prs H' us' res → Q (.ref p) H') ∧ (¬ E v → ∀ H', Same H H' → Q .non H')
section
variable {P : Program} {w : World} {K : PySem.W.Frag} {mg : Str → Option Value} {c : Cs} {base : Heap}
theorem ok_wo (T : Top K mg c) : Fd.Has P w K mg base CX0 1 "without" ["rows", "place"] spWo := by
  refine T.d_without.ok sc_without (fun vs H Q E h => ?_) (fun f cdv A outer s H vs Q E hr h => ?_)
  · obtain ⟨l, v, us, qs, rfl, _⟩ := h; rfl
  · obtain ⟨l, v, us, qs, rfl, hl, pr, few, q⟩ := h
    refine ⟨_, (pss_one (ps_ret (pe_lc (own := [("row", 2)]) (g := gName 2) rfl sc_without.nd (pi_list (pv 0)) (blkOk_by (own := [("row", 2)]) (N := N_without) (sc := defScope S_without) (by decide +kernel)) (fun _ _ _ _ _ => pg_name (i := 2) sc_without.nd rfl (Or.inl rfl)) (fun _ _ _ _ _ => (pts_one (pt_cmpR (r := rIn K true) op_notIn_seq (pv 1) (pv 2) (by rfl)))) (fun _ _ _ _ _ => (pv 2))))), ?_⟩
    refine ⟨_, rfl, l, rfl, ⟨us, SqL.of hl⟩, fun D hD => ?_⟩
    refine lc_list (xs := us) (fun i Hc => ∃ vs : List V, Same H Hc ∧ Hc D = some (.lst vs) ∧ Prs Hc vs (wo v (qs.take i)) ∧ vs.length ≤ i) ⟨[], Same.new hD, upd_same, .nil, Nat.le_refl _⟩ (fun i Hc _ ⟨_, e, _⟩ => SqL.of (e _ _ hl)) ?_ ?_
    · rintro i y Hc hi ⟨vs, s1, hDc, np, lv⟩
      obtain ⟨pq, a, hpq, rfl, ea⟩ := pr.get hi
      have ea1 := s1 _ _ ea
      have il := (List.getElem?_eq_some_iff.mp hi).1
      have tk : qs.take (i + 1) = qs.take i ++ [pq] := by rw [List.take_succ, hpq]; rfl
      refine ⟨rfl, _, rfl, _, rfl, a, _, rfl, .inr (SqT.of ea1), rfl, flat_ints [pq.1, pq.2], _, rfl, ?_⟩
      rw [show [V.int pq.1, V.int pq.2] = [pq.1, pq.2].map V.int from rfl, inV_ints]
      by_cases cm : v ∈ [pq.1, pq.2]
      · rw [decide_eq_true cm]
        refine iteF ⟨vs, s1, hDc, ?_, by omega⟩
        rw [tk, wo_snoc, if_pos cm]; exact np
      · rw [decide_eq_false cm]
        refine iteT ⟨_, rfl, vs, hDc, by rw [sizeLine_eq]; omega, vs ++ [.ref a], Same.mut s1 hD, upd_same, ?_, by rw [List.length_append]; show vs.length + 1 ≤ i + 1; omega⟩
        rw [tk, wo_snoc, if_neg cm]
        have kT : ∀ c' zs, Hc c' = some (.tup zs) → upd Hc D (.lst (vs ++ [.ref a])) c' = some (.tup zs) := fun c' zs e => by
          rw [upd_ne (ne_of e hDc (fun z => nomatch z))]; exact e
        exact (np.tups kT).app (.cons ⟨a, rfl, kT _ _ ea1⟩ .nil)
    · rintro Hc ⟨vs, s1, hDc, np, lv⟩
      rw [pr.len, List.take_length] at np
      exact q D vs Hc hD s1 hDc np
theorem ok_freed (T : Top K mg c) : Fd.Has P w K mg base CX0 8 "freed" ["net", "pairs", "place"] (spFreed c.Net) := by
  have G_without : Fd.Has P w K mg base CX0 1 "without" ["rows", "place"] spWo := ok_wo T
  have G_Net : Fd.IHas P w K mg base (L2N.CX P w) 6 c.Net ["self", "size", "ties"] (spInit c.Net c.BadNet) := ok_init T
  have G_Net_ties : Fd.MHas P w K mg base CX0 1 c.Net "ties" ["self"] (spTies c.Net) := ok_ties T
  have G_better : Fd.Has P w K mg base (L2N.CX P w) 6 "better" ["net", "pairs"] (spBetter c.Net c.BadPairs) := ok_better T
  have G_turned : Fd.Has P w K mg base (L2N.CX P w) 6 "turned" ["net", "pairs", "way"] (spTurned c.Net c.BadWay) := ok_turned T
  refine T.d_freed.ok sc_freed (fun vs H Q E h => ?_) (fun f cdv A outer s H vs Q E hr h => ?_)
  · obtain ⟨x, l, v, n, ts, qs, us, E, rfl, _⟩ := h; rfl
  · obtain ⟨x, l, v, n, ts, qs, us, E, rfl, N, hl, pr, g, up, B, v0, v1, qy, qn⟩ := h
    have hr_without := hr.mono (show 1 ≤ 7 by decide)
    have hr_Net := hr
    have hr_Net_ties := hr.mono (show 1 ≤ 7 by decide)
    have hr_better := hr.mono (show 6 ≤ 7 by decide)
    have hr_turned := hr.mono (show 6 ≤ 7 by decide)
    have n40 := N.hi
    have n1 := N.lo
    have lus := pr.len
    have few := g.count
    refine ⟨_, (pss_cons (ps_set (i := 3) sc_freed.nd rfl (Or.inl rfl) (Fd.pe_f G_without hr_without (by rfl) (pa_cons (pv 1) (pa_cons (pv 2) pa_nil))))
      (pss_cons (ps_if (pt_cmpR op_eq (pe_callB call_len_seq (by rfl) T.n_len boot_len (pa_cons (pv 3) pa_nil)) (pe_callB call_len_seq (by rfl) T.n_len boot_len (pa_cons (pv 1) pa_nil)) (nomark _))
      (pss_one (ps_ret (pv 3)))
      pss_nil)
      (pss_cons (ps_set (i := 4) sc_freed.nd rfl (Or.inl rfl) (Fd.pe_mk G_Net hr_Net (by rfl) T.c_Net Fd.pass00 (pa_cons (pe_fld (pv 0) rfl) (pa_cons (Fd.pe_f G_without hr_without (by rfl) (pa_cons (Fd.pe_m0 G_Net_ties (pv 0) T.cl_Net hr_Net_ties) (pa_cons (pv 2) pa_nil))) pa_nil))))
      (pss_cons (ps_set (i := 5) sc_freed.nd rfl (Or.inl rfl) (Fd.pe_fN G_better hr_better (by rfl) Fd.pass00 (pa_cons (pv 4) (pa_cons (pv 3) pa_nil))))
      (pss_cons (ps_if (pt_cmpR op_isN (pv 5) pe_non (nomark _))
      (pss_one (ps_ret pe_non))
      pss_nil)
      (pss_one (ps_ret (Fd.pe_fN G_turned hr_turned (by rfl) Fd.pass00 (pa_cons (pv 4) (pa_cons (pv 3) (pa_cons (pv 5) pa_nil))))))))))), ?_⟩
    refine ⟨_, rfl, _, rfl, l, v, us, qs, rfl, hl, pr, by omega, fun p uo H1 hp s1 ep pr1 => ?_⟩
    have luo := pr1.len
    have wl := wo_len (v := v) g.nd
    have l0 : 0 < qs.length ∨ v ∉ ends qs := by
      cases qs with
      | nil => exact .inr (fun z => by cases z)
      | cons _ _ => exact .inl (Nat.zero_lt_succ _)
    have hl1 := s1 _ _ hl
    refine ⟨_, rfl, p, _, rfl, .inl (SqL.of ep), _, rfl, l, _, rfl, .inl (SqL.of hl1), rfl, _, rfl, ?_⟩
    rw [vint]
    by_cases cv : v ∈ ends qs
    · rw [if_pos cv] at wl
      have l0 := l0.resolve_right fun z => z cv
      rw [decide_eq_false (by omega)]
      refine iteF ?_
      -- the net without its ties
      have N1 := N.ex s1
      obtain ⟨dx, lt, ln, us', rs, a1, _⟩ := N1.at_
      refine ⟨_, rfl, x, c.Net, dx, _, _, rfl, a1, T.cl_Net, T.a_Net_size, nf_size _ _ _, _, rfl, x, dx, _, rfl, a1, nf_m_ties _ _ _, x, n, ts, rfl, N1, fun p2 u2 hp2 pr2 => ?_⟩
      have b2 := Same.new (o := .lst u2) hp2
      have e2 : upd H1 p2 (.lst u2) p2 = some (.lst u2) := upd_same
      have pr2' := pr2.ex b2
      have l2 := pr2.len
      have fewt := N.few
      generalize upd H1 p2 (.lst u2) = H2 at b2 e2 pr2' ⊢
      refine ⟨_, rfl, p2, v, u2, ts, rfl, e2, pr2', by omega, fun p3 u3 H3 hp3 s3 e3 pr3 => ?_⟩
      have tw := wo_tie (v := v) N.tie
      have uw : (wo v ts).Pairwise plt := N.up.sublist List.filter_sublist
      have good := good_nd (n := n) e3 pr3 tw (plt_nodup uw) n1 n40
      have s03 := Same.trans (Same.trans s1 b2) s3
      have s13 := Same.trans b2 s3
      intro y dy hy hdy ne
      refine ⟨H3, y, dy, _, _, _, _, rfl, fun b o e => by rw [upd_ne (ne_of_none e hy), upd_ne (ne_of_none e hdy)]; exact e, hy, upd_same, .int _, kl_lst e3 pr3.kt, .inl ⟨n, wo v ts, good, fun ts' H4 pmN s4 N4 => ⟨rfl, ?_⟩⟩⟩
      obtain rfl : ts' = wo v ts := plt_one pmN N4.up uw
      have NR : NetAt c.Net H4 y n (wo v ts) := N4.ex newp_same
      have s14 := Same.trans s13 s4
      have s04 := Same.trans s1 s14
      have ep4 := s14 _ _ ep
      have pr4 := pr1.ex s14
      have go := g.wo (v := v)
      have uo' : (wo v qs).Pairwise plt := up.sublist List.filter_sublist
      have ok4 : ∀ {H' : Hp}, Prs H' uo (wo v qs) → OkPairs H' n (wo v ts) uo := fun pr => ok_prs pr NR.tie go.sub go.nd
      refine ⟨_, rfl, _, rfl, y, n, wo v ts, _, .list, rfl, NR, kl_lst ep4 pr4.kt, .inl ⟨uo, wo v qs, listOf_lst ep4, ok4 pr4, by rw [pr4.prOf], uo', fun ms pw H5 wy hpw s5 e5 => ?_, fun big H5 s5 => ?_⟩⟩
      · refine ⟨_, rfl, rfl, _, rfl, iteF ?_⟩
        have ep5 := s5 _ _ ep4
        have pr5 := pr4.ex s5
        have lw := wy.len
        refine ⟨_, rfl, _, rfl, _, rfl, y, n, wo v ts, wo v qs, _, _, .list, .list, uo, rfl, NR.ex s5, kl_lst ep5 pr5.kt, listOf_lst ep5, ok4 pr5, ⟨.lst e5, fun xs z => ?_⟩, by rw [pr5.prOf], uo', .inl ⟨ms, ⟨listOf_lst e5, wy⟩, fun res pb ub H6 pm sd hpb s6 e6 np6 => ?_⟩⟩
        · rw [listOf_lst e5] at z; cases z
          exact ⟨by rw [List.length_map]; omega, kd_ints⟩
        have pmT : res.Perm (trnd ms (wo v qs)) := pm
        have g3 : Pg n (wo v ts) res := (wy.pg go).perm pmT
        have l3 : res.length = qs.length := by rw [pmT.length_eq, trnd_len go wy]; omega
        obtain ⟨gt, vo⟩ := g3.from_wo N.tie
        have s06 := Same.trans (Same.trans s04 s5) s6
        exact qy res pb ub H6 gt (plt_strict sd (ends_nd g3.nd)) l3 vo (is_free g B gt l3 vo v0 v1) ((Same.trans s04 s5).free hpb) s06 e6 np6.prs
      · refine ⟨_, rfl, rfl, _, rfl, iteT ?_⟩
        obtain ⟨E', B'⟩ := big
        exact qn (no_free g cv B B') H5 (Same.trans s04 s5)
    · rw [if_neg cv] at wl
      rw [decide_eq_true (by omega)]
      refine iteT ⟨_, rfl, ?_⟩
      rw [wo_eq cv] at pr1
      exact qy qs p uo H1 g up rfl cv (is_free g B g rfl cv v0 v1) hp s1 ep pr1
end
end Od

namespace Od
open PySem PySem.Spec PyProof.Rows L2
/-- E is what some greatest pairing of the net leaves alone -/
def Free (n : Nat) (ts : List Pr) (E : Int → Prop) : Prop := ∃ qs, Pg n ts qs ∧ qs.Pairwise plt ∧ Ge.Big n (nbr ts) (mo qs) E
/-- the fence -/
def IsFence (n : Nat) (ts : List Pr) (E : Int → Prop) (F : List Int) : Prop := F.Pairwise (· < ·) ∧ ∀ v, v ∈ F ↔ (0 ≤ v ∧ v < (n : Int)) ∧ Ge.Bes (nbr ts) E v
theorem big_one {n : Nat} {ts q1 q2 : List Pr} {E1 E2 : Int → Prop} (g1 : Pg n ts q1) (g2 : Pg n ts q2) (B1 : Ge.Big n (nbr ts) (mo q1) E1) (B2 : Ge.Big n (nbr ts) (mo q2) E2) : (∀ v, E1 v ↔ E2 v) ∧ q1.length = q2.length := by
  have G := gr_nbr g1.tie
  have hn : ∀ {p q : Int}, q ∈ nbr ts p → 0 ≤ q ∧ q < (n : Int) := nbr_rg g1.tie
  have l1 := B1.least G g1.mt hn g2.mt
  have l2 := B2.least G g2.mt hn g1.mt
  have c1 := g1.count
  have c2 := g2.count
  refine ⟨fun v => ⟨fun h => ?_, fun h => ?_⟩, by omega⟩
  · have r := B1.cert.rg h
    obtain ⟨N, a, b, c⟩ := B1.rch h
    exact B2.alone G g2.mt hn a (by omega) r.1 r.2 b
  · have r := B2.cert.rg h
    obtain ⟨N, a, b, c⟩ := B2.rch h
    exact B1.alone G g1.mt hn a (by omega) r.1 r.2 b
theorem Free.one {n : Nat} {ts : List Pr} {E1 E2 : Int → Prop} (h1 : Free n ts E1) (h2 : Free n ts E2) : E1 = E2 := by
  obtain ⟨q1, g1, _, B1⟩ := h1
  obtain ⟨q2, g2, _, B2⟩ := h2
  exact funext fun v => propext ((big_one g1 g2 B1 B2).1 v)
theorem IsFence.one {n : Nat} {ts : List Pr} {E : Int → Prop} {F F' : List Int} (h : IsFence n ts E F) (h' : IsFence n ts E F') : F = F' :=
  up_one h.1 h'.1 fun p => (h.2 p).trans (h'.2 p).symm
def spBesOne (C : Addr) : Sp := fun vs H Q _ => ∃ (x l : Addr) (v : Int) (n : Nat) (ts : List Pr) (bs : List Bool), vs = [.ref x, .int v, .ref l] ∧ NetAt C H x n ts ∧ H l = some (.lst (bs.map V.bl)) ∧ bs.length = n ∧ 0 ≤ v ∧ v < (n : Int) ∧
  ∀ H', Same H H' → Q (.bl ((nbr ts v).any fun u => bs.getD u.toNat false)) H'
def spFence (C : Addr) : Sp := fun vs H Q _ => ∃ (x : Addr) (n : Nat) (ts : List Pr), vs = [.ref x] ∧ NetAt C H x n ts ∧
  ∀ (E : Int → Prop) (F : List Int) (p : Addr) (H' : Hp), Free n ts E → IsFence n ts E F → H p = none → Same H H' → H' p = some (.lst (F.map V.int)) → Q (.ref p) H'
section
variable {P : Program} {w : World} {K : PySem.W.Frag} {mg : Str → Option Value} {c : Cs} {base : Heap}
theorem ok_bes (T : Top K mg c) : Fd.Has P w K mg base CX0 4 "is_beside_one" ["net", "place", "marked"] (spBesOne c.Net) := by
  have G_Net_beside : Fd.MHas P w K mg base (L2N.CX P w) 3 c.Net "beside" ["self", "place"] (spBeside c.Net c.NoPlace) := ok_beside T
  refine T.d_is_beside_one.ok sc_is_beside_one (fun vs H Q E h => ?_) (fun f cdv A outer s H vs Q E hr h => ?_)
  · obtain ⟨x, l, v, n, ts, bs, rfl, _⟩ := h; rfl
  · obtain ⟨x, l, v, n, ts, bs, rfl, N, hl, lb, v0, v1, q⟩ := h
    have hr_Net_beside := hr
    have n40 := N.hi
    refine ⟨_, (pss_one (ps_ret (pe_callB (cr_any rfl) (by rfl) T.n_any boot_any (pa_cons (pe_lc (own := [("other", 3)]) (g := gName 3) rfl sc_is_beside_one.nd (pi_list (Fd.pe_mN G_Net_beside (pv 0) T.cl_Net hr_Net_beside Fd.pass00 (pa_cons (pv 1) pa_nil))) (blkOk_by (own := [("other", 3)]) (N := N_is_beside_one) (sc := defScope S_is_beside_one) (by decide +kernel)) (fun _ _ _ _ _ => pg_name (i := 3) sc_is_beside_one.nd rfl (Or.inl rfl)) (fun _ _ _ _ _ => pts_nil) (fun _ _ _ _ _ => (pe_ix (r := rIxL K) ix_list (pv 2) (pv 3) (fun _ _ => rfl)))) pa_nil)))), ?_⟩
    obtain ⟨dx, lt, ln, us, rs, a1, _⟩ := N.at_
    obtain ⟨vn, rfl⟩ : ∃ vn : Nat, v = (vn : Int) := ⟨v.toNat, by omega⟩
    refine ⟨_, rfl, x, dx, _, rfl, a1, nf_beside _ _ _, _, rfl, x, n, ts, _, _, rfl, N, .int _, fun i e hi D0 hD0 => ?_, fun z => ?_⟩
    rotate_left
    · have : isPl (.int (vn : Int)) n = true := decide_eq_true ⟨by omega, by omega⟩
      rw [this] at z; cases z
    injection e with e
    obtain rfl : vn = i := by omega
    have s0 := Same.new (o := .lst ((nbr ts (vn : Int)).map V.int)) hD0
    have e0 : upd H D0 (.lst ((nbr ts (vn : Int)).map V.int)) D0 = some (.lst ((nbr ts (vn : Int)).map V.int)) := upd_same
    generalize upd H D0 (.lst ((nbr ts (vn : Int)).map V.int)) = H0 at s0 e0 ⊢
    have lnb : (nbr ts (vn : Int)).length ≤ n := int_few (fun q hq => nbr_rng N.tie hq) ((nbr_up N.tie N.up _).imp fun h e => by omega)
    refine ⟨D0, rfl, ⟨_, SqL.of e0⟩, fun D hD => ?_⟩
    refine lc_list (xs := (nbr ts (vn : Int)).map V.int) (fun i Hc => Same H0 Hc ∧ Hc D = some (.lst ((((nbr ts (vn : Int)).take i).map fun u => bs.getD u.toNat false).map V.bl))) ⟨Same.new hD, upd_same⟩ (fun i Hc _ e => SqL.of (e.1 _ _ e0)) ?_ ?_
    · rintro i y Hc hi ⟨s1, hDc⟩
      rw [List.getElem?_map] at hi
      obtain ⟨u, hu, rfl⟩ := Option.map_eq_some_iff.mp hi
      have ur := nbr_rng N.tie (List.mem_of_getElem? hu)
      have il := (List.getElem?_eq_some_iff.mp hu).1
      have tk : (nbr ts (vn : Int)).take (i + 1) = (nbr ts (vn : Int)).take i ++ [u] := by rw [List.take_succ, hu]; rfl
      have atb : atI (bs.map V.bl) u = some (V.bl (bs.getD u.toNat false)) := by
        have q1 := atI_nat (xs := bs.map V.bl) (j := u.toNat) (v := V.bl (bs.getD u.toNat false)) (by
          rw [List.getElem?_map, List.getD_eq_getElem?_getD, List.getElem?_eq_getElem (by omega)]; rfl)
        rwa [show ((u.toNat : Nat) : Int) = u by omega] at q1
      refine ⟨rfl, tyes (iteT ⟨_, rfl, _, rfl, l, _, _, _, rfl, rfl, SqL.of (s1 _ _ (s0 _ _ hl)), atb, _, hDc, ?_, Same.mut s1 hD, ?_⟩)⟩
      · rw [List.length_map, List.length_map, List.length_take, sizeLine_eq]; omega
      · rw [upd_same, tk, List.map_append, List.map_append]; rfl
    · rintro Hc ⟨s1, hDc⟩
      rw [List.length_map, List.take_length] at hDc
      refine ⟨D, _, rfl, SqL.of hDc, ?_⟩
      rw [List.any_map]
      exact q Hc (Same.trans s0 s1)
theorem ok_fence (T : Top K mg c) : Fd.Has P w K mg base CX0 9 "fence" ["net"] (spFence c.Net) := by
  have G_most : Fd.Has P w K mg base CX0 7 "most" ["net"] (spMost c.Net) := ok_most T
  have G_freed : Fd.Has P w K mg base CX0 8 "freed" ["net", "pairs", "place"] (spFreed c.Net) := ok_freed T
  have G_is_beside_one : Fd.Has P w K mg base CX0 4 "is_beside_one" ["net", "place", "marked"] (spBesOne c.Net) := ok_bes T
  refine T.d_fence.ok sc_fence (fun vs H Q E h => ?_) (fun f cdv A outer s H vs Q E hr h => ?_)
  · obtain ⟨x, n, ts, rfl, _⟩ := h; rfl
  · obtain ⟨x, n, ts, rfl, N, q⟩ := h
    have hr_most := hr.mono (show 7 ≤ 8 by decide)
    have hr_freed := hr
    have hr_is_beside_one := hr.mono (show 4 ≤ 8 by decide)
    have n40 := N.hi
    refine ⟨_, (pss_cons (ps_set (i := 1) sc_fence.nd rfl (Or.inr rfl) (Fd.pe_f G_most hr_most (by rfl) (pa_cons (pv 0) pa_nil)))
      (pss_cons (ps_set (i := 2) sc_fence.nd rfl (Or.inl rfl) (pe_callTy (Up.cl_rng rfl) (by rfl) T.n_list boot_list (pa_cons (pe_callTy Up.cr_range1 (by rfl) T.n_range boot_range (pa_cons (pe_fld (pv 0) rfl) pa_nil)) pa_nil)))
      (pss_cons (ps_set (i := 3) sc_fence.nd rfl (Or.inr rfl) (pe_lc (own := [("place", 4)]) (g := gName 4) rfl sc_fence.nd (pi_list (pv 2)) (blkOk_by (own := [("place", 4)]) (N := N_fence) (sc := defScope S_fence) (by decide +kernel)) (fun _ _ _ _ _ => pg_name (i := 4) sc_fence.nd rfl (Or.inl rfl)) (fun _ _ _ _ _ => pts_nil) (fun _ _ _ _ _ => (pe_cmpR op_notN (Fd.pe_f G_freed hr_freed (by rfl) (pa_cons (pv 0) (pa_cons (pv 1) (pa_cons (pv 4) pa_nil)))) pe_non (nomark _)))))
      (pss_one (ps_ret (pe_lc (own := [("place", 4)]) (g := gName 4) rfl sc_fence.nd (pi_list (pv 2)) (blkOk_by (own := [("place", 4)]) (N := N_fence) (sc := defScope S_fence) (by decide +kernel)) (fun _ _ _ _ _ => pg_name (i := 4) sc_fence.nd rfl (Or.inl rfl)) (fun _ _ _ _ _ => (pts_one (PW.pt (pw_and (pt_not (pt_val (pe_ix (r := rIxL K) ix_list (pv 3) (pv 4) (fun _ _ => rfl)))) (pw_and1 (pt_val (Fd.pe_f G_is_beside_one hr_is_beside_one (by rfl) (pa_cons (pv 0) (pa_cons (pv 4) (pa_cons (pv 3) pa_nil)))))))))) (fun _ _ _ _ _ => (pv 4)))))))), ?_⟩
    refine ⟨_, rfl, x, n, ts, rfl, N, fun qs E pm us H1 g up B hpm s1 epm np => ?_⟩
    have pr := np.prs
    have free : Free n ts E := ⟨qs, g, up, B⟩
    obtain ⟨dx, lt, ln, us', rs, a1, _⟩ := (N.ex s1).at_
    refine ⟨_, rfl, x, c.Net, dx, _, _, rfl, a1, T.cl_Net, T.a_Net_size, nf_size _ _ _, _, rfl, fun pr1 hpr1 => ?_⟩
    have b1 := Same.new (o := .rng 0 (n : Int)) hpr1
    have e1 : upd H1 pr1 (.rng 0 (n : Int)) pr1 = some (.rng 0 (n : Int)) := upd_same
    generalize upd H1 pr1 (.rng 0 (n : Int)) = H2 at b1 e1 ⊢
    refine ⟨pr1, n, rfl, e1, by omega, fun pp hpp => ?_⟩
    have b2 := Same.new (o := .lst ((List.range n).map fun i : Nat => V.int (i : Int))) hpp
    have e2 : upd H2 pp (.lst ((List.range n).map fun i : Nat => V.int (i : Int))) pp = some (.lst ((List.range n).map fun i : Nat => V.int (i : Int))) := upd_same
    generalize upd H2 pp (.lst ((List.range n).map fun i : Nat => V.int (i : Int))) = H3 at b2 e2 ⊢
    have s03 := Same.trans s1 (Same.trans b1 b2)
    have s13 := Same.trans b1 b2
    have pAt : ∀ {i : Nat} {v : V}, ((List.range n).map fun i : Nat => V.int (i : Int))[i]? = some v → i < n ∧ v = .int (i : Int) := fun {i v} h => by
      rw [List.getElem?_map] at h
      obtain ⟨k, hk, rfl⟩ := Option.map_eq_some_iff.mp h
      have hl := (List.getElem?_eq_some_iff.mp hk).1
      rw [List.length_range] at hl
      rw [List.getElem?_range hl] at hk
      cases hk
      exact ⟨hl, rfl⟩
    -- which can be left alone
    refine ⟨_, rfl, pp, rfl, ⟨_, SqL.of e2⟩, fun D hD => ?_⟩
    refine lc_list (xs := (List.range n).map fun i : Nat => V.int (i : Int)) (fun i Hc => ∃ bs : List Bool, Same H3 Hc ∧ Hc D = some (.lst (bs.map V.bl)) ∧ bs.length = i ∧ ∀ j : Nat, j < i → (bs.getD j false = true ↔ E (j : Int))) ⟨[], Same.new hD, upd_same, rfl, fun j hj => absurd hj (Nat.not_lt_zero _)⟩ (fun i Hc _ ⟨_, e, _⟩ => SqL.of (e _ _ e2)) ?_ ?_
    · rintro i y Hc hi ⟨bs, s4, hDc, lb, hb⟩
      obtain ⟨il, rfl⟩ := pAt hi
      have s04 := Same.trans s03 s4
      have nD : ∀ {H' : Hp}, Same Hc H' → H' D = some (.lst (bs.map V.bl)) := fun e => e _ _ hDc
      have fin : ∀ (b : Bool) (H' : Hp), Same Hc H' → (b = true ↔ E (i : Int)) → ∃ acc, H' D = some (.lst acc) ∧ acc.length < sizeLine ∧ ∃ bs : List Bool, Same H3 (upd H' D (.lst (acc ++ [V.bl b]))) ∧ upd H' D (.lst (acc ++ [V.bl b])) D = some (.lst (bs.map V.bl)) ∧ bs.length = i + 1 ∧ ∀ j : Nat, j < i + 1 → (bs.getD j false = true ↔ E (j : Int)) := fun b H' e h => by
        refine ⟨_, nD e, by rw [List.length_map, sizeLine_eq]; omega, bs ++ [b], Same.mut (Same.trans s4 e) hD, by rw [upd_same, List.map_append]; rfl, by rw [List.length_append, lb]; rfl, fun j hj => ?_⟩
        rw [List.getD_eq_getElem?_getD]
        by_cases c : j < i
        · rw [List.getElem?_append_left (by omega), ← List.getD_eq_getElem?_getD]; exact hb j c
        · obtain rfl : j = i := by omega
          rw [List.getElem?_append_right (by omega), lb, Nat.sub_self]; exact h
      refine ⟨rfl, tyes (iteT ⟨_, rfl, _, rfl, _, rfl, x, pm, (i : Int), n, ts, qs, us, E, rfl, N.ex s04, (Same.trans s13 s4) _ _ epm, pr.ex (Same.trans s13 s4), g, up, B, by omega, by omega, fun res p us2 H5 _ _ _ _ hE _ s5 _ _ => ?_, fun hE H5 s5 => ?_⟩)⟩
      · refine ⟨rfl, ?_⟩
        exact fin true H5 s5 ⟨fun _ => hE, fun _ => rfl⟩
      · refine ⟨rfl, ?_⟩
        exact fin false H5 s5 ⟨fun z => (by cases z), fun z => absurd z hE⟩
    rintro H4 ⟨bs, s4, hD4, lb, hb⟩
    rw [List.length_map, List.length_range] at lb hb
    have s04 := Same.trans s03 s4
    have bE : ∀ v : Int, 0 ≤ v → v < (n : Int) → (bs.getD v.toNat false = true ↔ E v) := fun v h0 h1 => by
      have := hb v.toNat (by omega)
      rwa [show ((v.toNat : Nat) : Int) = v by omega] at this
    have e24 := s4 _ _ e2
    have any_E : ∀ v : Int, ((nbr ts v).any fun u => bs.getD u.toNat false) = true ↔ ∃ u, E u ∧ v ∈ nbr ts u := fun v => by
      rw [List.any_eq_true]
      constructor
      · rintro ⟨u, hu, h⟩
        have r := nbr_rng N.tie hu
        exact ⟨u, (bE u r.1 r.2).mp h, nbr_sym N.tie hu⟩
      · rintro ⟨u, hE, hu⟩
        have hu' := nbr_sym N.tie hu
        have r := nbr_rng N.tie hu'
        exact ⟨u, hu', (bE u r.1 r.2).mpr hE⟩
    -- the bound ones beside one of these
    refine ⟨_, rfl, pp, rfl, ⟨_, SqL.of e24⟩, fun D2 hD2 => ?_⟩
    refine lc_list (xs := (List.range n).map fun i : Nat => V.int (i : Int)) (fun i Hc => ∃ F : List Int, Same H4 Hc ∧ Hc D2 = some (.lst (F.map V.int)) ∧ F.length ≤ i ∧ F.Pairwise (· < ·) ∧ ∀ v, v ∈ F ↔ (0 ≤ v ∧ v < (i : Int)) ∧ Ge.Bes (nbr ts) E v) ⟨[], Same.new hD2, upd_same, Nat.le_refl _, List.Pairwise.nil, fun v => ⟨fun z => (by cases z), fun z => (by omega)⟩⟩ (fun i Hc _ ⟨_, e, _⟩ => SqL.of (e _ _ e24)) ?_ ?_
    · rintro i y Hc hi ⟨F, s5, hDc, lF, upF, mem⟩
      obtain ⟨il, rfl⟩ := pAt hi
      have atb : atI (bs.map V.bl) (i : Int) = some (V.bl (bs.getD i false)) := atI_nat (by rw [List.getElem?_map, List.getD_eq_getElem?_getD, List.getElem?_eq_getElem (by omega)]; rfl)
      have no : ¬ Ge.Bes (nbr ts) E (i : Int) → ∀ H', Same Hc H' → ∃ F : List Int, Same H4 H' ∧ H' D2 = some (.lst (F.map V.int)) ∧ F.length ≤ i + 1 ∧ F.Pairwise (· < ·) ∧ ∀ v, v ∈ F ↔ (0 ≤ v ∧ v < ((i + 1 : Nat) : Int)) ∧ Ge.Bes (nbr ts) E v := fun nb H' e => by
        refine ⟨F, Same.trans s5 e, e _ _ hDc, by omega, upF, fun v => ?_⟩
        rw [mem v]
        constructor
        · rintro ⟨a, b⟩; exact ⟨⟨a.1, by omega⟩, b⟩
        · rintro ⟨a, b⟩
          have : v ≠ (i : Int) := fun z => nb (z ▸ b)
          exact ⟨⟨a.1, by omega⟩, b⟩
      have hb0 := hb i il
      refine ⟨rfl, _, rfl, _, rfl, D, _, _, _, rfl, rfl, SqL.of (s5 _ _ hD4), atb, _, rfl, ?_⟩
      by_cases cE : E (i : Int)
      · rw [hb0.mpr cE]
        exact iteF (iteF (no (fun z => z.1 cE) Hc (Same.refl Hc)))
      · have e0 : bs.getD i false = false := by
          cases e : bs.getD i false with
          | false => rfl
          | true => exact absurd (hb0.mp e) cE
        rw [e0]
        refine iteT ⟨_, rfl, _, rfl, _, rfl, x, D, (i : Int), n, ts, bs, rfl, (N.ex s04).ex s5, s5 _ _ hD4, lb, by omega, by omega, fun H6 s6 => ⟨_, rfl, ?_⟩⟩
        by_cases cB : ∃ u, E u ∧ (i : Int) ∈ nbr ts u
        · rw [(any_E _).mpr cB]
          have hD6 := s6 _ _ hDc
          refine iteT ⟨_, rfl, _, hD6, by rw [List.length_map, sizeLine_eq]; omega, F ++ [(i : Int)], Same.mut (Same.trans s5 s6) hD2, by rw [upd_same, List.map_append]; rfl, by rw [List.length_append]; show F.length + 1 ≤ i + 1; omega, ?_, fun v => ?_⟩
          · refine List.pairwise_append.mpr ⟨upF, List.pairwise_singleton _ _, fun a ha b hb' => ?_⟩
            rw [List.mem_singleton.mp hb']
            exact ((mem a).mp ha).1.2
          · rw [List.mem_append, mem v, List.mem_singleton]
            constructor
            · rintro (⟨a, b⟩ | rfl)
              · exact ⟨⟨a.1, by omega⟩, b⟩
              · exact ⟨⟨by omega, by omega⟩, cE, cB⟩
            · rintro ⟨a, b⟩
              by_cases z : v = (i : Int)
              · exact .inr z
              · exact .inl ⟨⟨a.1, by omega⟩, b⟩
        · have e1 : ((nbr ts (i : Int)).any fun u => bs.getD u.toNat false) = false := by
            cases e : ((nbr ts (i : Int)).any fun u => bs.getD u.toNat false) with
            | false => rfl
            | true => exact absurd ((any_E _).mp e) cB
          rw [e1]
          exact iteF (no (fun z => cB z.2) H6 s6)
    · rintro H5 ⟨F, s5, hD5, lF, upF, mem⟩
      rw [List.length_map, List.length_range] at mem
      exact q E F D2 H5 free ⟨upF, mem⟩ (s04.free hD2) (Same.trans s04 s5) hD5
end
end Od

namespace Od
open PySem PySem.Spec PyProof.Rows L2 TL
theorem kit_same {K : PySem.W.Frag} {D : Addr} : PySem.W.kitOne K (.ref D) (.ref D) = some true := if_pos (beq_self_eq_true _)
def dIss (Ls : List (List Int)) : PyData := .list (Ls.map dIs)
theorem eqv_dIss (a b : List (List Int)) : PyData.eqv (dIss a) (dIss b) = decide (a = b) := eqv_map dIs eqv_dIs a b
theorem dIs_in (L : List Int) : (dIs L).canLay0 = true ∧ (dIs L).depth ≤ 60 := by
  obtain ⟨h1, h2⟩ := shapedAll PyData.int 50 (fun x => ⟨by simp [PyData.canLay0], by simp [PyData.depth]⟩) L
  unfold dIs
  rw [PyData.canLay0, PyData.depth]
  exact ⟨h1, by omega⟩
theorem shaped_dIss (a : List (List Int)) : SeqAt.shaped (dIss a) = true := shaped_map dIs dIs_in a
theorem dpAll_rows {K : PySem.W.Frag} {H : Hp} : ∀ {rs : List Addr} {Ls : List (List Int)}, Paired (fun r L => H r = some (.lst ((L : List Int).map V.int))) rs Ls → DpAll K H (rs.map V.ref) (Ls.map dIs)
  | _, _, .nil => .nil
  | _, _, .cons h t => .cons (dp_ints (SqL.of h)) (dpAll_rows t)
theorem paired_ix {α β : Type} {F : α → β → Prop} : ∀ {xs : List α} {ys : List β}, xs.length = ys.length → (∀ (i : Nat) (x : α) (y : β), xs[i]? = some x → ys[i]? = some y → F x y) → Paired F xs ys
  | [], [], _, _ => .nil
  | [], _ :: _, h, _ => by cases h
  | _ :: _, [], h, _ => by cases h
  | x :: xs, y :: ys, h, f => .cons (f 0 x y rfl rfl) (paired_ix (by simpa using h) fun i a b p q => f (i + 1) a b (by simpa using p) (by simpa using q))
theorem dp_rows {K : PySem.W.Frag} {H0 H : Hp} {p : Addr} {n : Nat} {f : Nat → List Int} {rs : List Addr} (R : RowsAt H0 H p n f rs) : Dp K H (.ref p) (dIss ((List.range n).map f)) := by
  refine .lst (SqL.of R.at_) (dpAll_rows (paired_ix (by rw [R.len, List.length_map, List.length_range]) fun i r L h1 h2 => ?_))
  rw [List.getElem?_map] at h2
  obtain ⟨j, hj, rfl⟩ := Option.map_eq_some_iff.mp h2
  have e := List.getElem?_eq_some_iff.mp hj
  obtain ⟨_, e⟩ := e
  rw [List.getElem_range] at e
  subst e
  exact R.row _ _ h1
/-- a net, looked at -/
theorem net_tyx {K : PySem.W.Frag} {mg : Str → Option Value} {c : Cs} (T : Top K mg c) {H : Hp} {x : Addr} {n : Nat} {ts : List Pr} (N : NetAt c.Net H x n ts) : TyX K H (.ref x) (.ref c.Net) := by
  obtain ⟨dx, lt, ln, us, rs, a1, _⟩ := N.at_
  obtain ⟨h1, h2, h3, h4⟩ := T.y_Net
  exact .base (.ins a1 T.cl_Net h1 h2 h3 h4)
def NoCan (y : V) : Prop := ∀ (z : Str) (n : Nat) (ts : List Pr), y = .str z → Tx.Can n ts → tl z ≠ Tx.txt n ts
def spRefT (C : Addr) : Sp := fun vs H Q _ => ∃ (y : V) (t : Ty), vs = [y] ∧ Kd H y t ∧ (∀ z, y = .str z → z.length ≤ 100000) ∧ NoCan y ∧ ∀ H', Same H H' → Q (.bl true) H'
def spAlike (C : Addr) : Sp := fun vs H Q _ => ∃ z : Str, vs = [.str z] ∧ z.length ≤ 4790 ∧ ∀ H', Same H H' → Q (.bl true) H'
section
variable {P : Program} {w : World} {K : PySem.W.Frag} {mg : Str → Option Value} {c : Cs} {base : Heap}
theorem ok_refT (T : Top K mg c) : Fd.Has P w K mg base CX0 9 "_law_refused" ["_law_line"] (spRefT c.Net) := by
  have G__law_sole := fun (a : Addr) (oe : Obj) (cls : Value) (d : Option Addr) (hz : L2N.Zn cls d oe) (hf : ∃ vs, oe.data = .fields vs) => ok_sole (P := P) (w := w) (base := base) T a oe cls d hz hf
  have G_read : Fd.Has P w K mg base (L2N.CX P w) 8 "read" ["line"] (spRead c.Net c.BadNet) := ok_read T
  refine T.d__law_refused.ok sc__law_refused (fun vs H Q E h => ?_) (fun f cdv A outer s H vs Q E hr h => ?_)
  · obtain ⟨y, t, rfl, _⟩ := h; rfl
  · obtain ⟨y, t, rfl, ky, ly, no, q⟩ := h
    have hr_read := hr
    have hr__law_sole := hr.mono (show 1 ≤ 8 by decide)
    refine ⟨_, (pss_cons (Sd.keep (L2N.ps_try_as (i := 1) rfl rfl sc__law_refused.nd rfl rfl ⟨rfl, by decide, Or.inl T.e_BadNet.c⟩ Fd.takesF (fun W pn xe tk _ =>
      (pss_one (ps_expr (Fd.pe_fS G_read hr_read (by rfl) tk (pa_cons (pv 0) pa_nil)))))
      (fun a oe cls d pn hz hf =>
      (pss_one (ps_ret (Fh.pe_p (G__law_sole a oe cls d hz hf) (Fh.roomM hr__law_sole) (Fh.hotM hz hf) List.mem_cons_self (by rfl) (pa_cons (pv 1) pa_nil)))))))
      (pss_one (ps_ret pe_bl))), ?_⟩
    refine ⟨_, rfl, y, t, rfl, ky, ly, .inr ⟨no, fun H' s5 => ?_⟩⟩
    refine ⟨true, T.e_BadNet.m, fun _ a ha => ?_, fun z => nomatch z⟩
    exact ⟨_, rfl, rfl, ⟨c.BadNet, rfl, rfl, T.l_BadNet⟩, q H' s5⟩
theorem ok_alike (T : Top K mg c) : Fd.Has P w K mg base CX0 10 "_law_read_alike" ["_law_line"] (spAlike c.Net) := by
  have G__law_net_of : Fd.Has P w K mg base CX0 4 "_law_net_of" ["_law_line"] spNetOf := ok_net_of T
  have G__law_refused : Fd.Has P w K mg base CX0 9 "_law_refused" ["_law_line"] (spRefT c.Net) := ok_refT T
  have G_read : Fd.Has P w K mg base (L2N.CX P w) 8 "read" ["line"] (spRead c.Net c.BadNet) := ok_read T
  have G_Net : Fd.IHas P w K mg base (L2N.CX P w) 6 c.Net ["self", "size", "ties"] (spInit c.Net c.BadNet) := ok_init T
  have G_Net_ties : Fd.MHas P w K mg base CX0 1 c.Net "ties" ["self"] (spTies c.Net) := ok_ties T
  have G_Net_beside : Fd.MHas P w K mg base (L2N.CX P w) 3 c.Net "beside" ["self", "place"] (spBeside c.Net c.NoPlace) := ok_beside T
  have G_parts : Fd.Has P w K mg base (L2N.CX P w) 5 "parts" ["net", "taken"] (spParts c.Net c.NoPlace) := ok_parts T
  have G_most : Fd.Has P w K mg base CX0 7 "most" ["net"] (spMost c.Net) := ok_most T
  have G_fence : Fd.Has P w K mg base CX0 9 "fence" ["net"] (spFence c.Net) := ok_fence T
  have G_shown : Fd.Has P w K mg base CX0 2 "shown" ["net"] (spShown c.Net) := ok_shown T
  refine T.d__law_read_alike.ok sc__law_read_alike (fun vs H Q E h => ?_) (fun f cdv A outer s H vs Q E hr h => ?_)
  · obtain ⟨z, rfl, _⟩ := h; rfl
  · obtain ⟨z, rfl, lz, q⟩ := h
    have hr__law_net_of := hr.mono (show 4 ≤ 9 by decide)
    have hr__law_refused := hr
    have hr_read := hr.mono (show 8 ≤ 9 by decide)
    have hr_Net := hr.mono (show 7 ≤ 9 by decide)
    have hr_Net_ties := hr.mono (show 1 ≤ 9 by decide)
    have hr_Net_beside := hr.mono (show 3 ≤ 9 by decide)
    have hr_parts := hr.mono (show 5 ≤ 9 by decide)
    have hr_most := hr.mono (show 7 ≤ 9 by decide)
    have hr_fence := hr
    have hr_shown := hr.mono (show 2 ≤ 9 by decide)
    refine ⟨_, (pss_cons (ps_set (i := 1) sc__law_read_alike.nd rfl (Or.inl rfl) (Fd.pe_f G__law_net_of hr__law_net_of (by rfl) (pa_cons (pv 0) pa_nil)))
      (pss_cons (ps_if (pt_cmpR op_isN (pv 1) pe_non (nomark _))
      (pss_one (ps_ret (Fd.pe_f G__law_refused hr__law_refused (by rfl) (pa_cons (pv 0) pa_nil))))
      pss_nil)
      (pss_cons (Sd.keep (L2N.ps_try_many rfl rfl Fd.takesF (fun W pn xe tk _ =>
      (pss_one (ps_set (i := 2) sc__law_read_alike.nd rfl (Or.inl rfl) (Fd.pe_fS G_read hr_read (by rfl) tk (pa_cons (pv 0) pa_nil)))))
      (.cons ⟨rfl, by decide, Or.inl T.e_BadNet.c⟩ (fun a oe cls d pn hz hf =>
      (pss_one (ps_ret pe_bl))) .nil)))
      (pss_cons (ps_if (PW.pt (pw_or (pt_not (pt_val (pe_callB (r := rIsi K) call_isi (by rfl) T.n_isinstance boot_isinstance (pa_cons (pv 2) (pa_cons (pe_glob (v := .ref c.Net) (by rfl) T.c_Net rfl) pa_nil))))) (pw_or (pt_cmpR op_ne (pe_fld (pv 2) rfl) (pe_ix ix_tup (pv 1) pe_int (fun _ _ => rfl)) (nomark _)) (pw_or1 (pt_cmpR (op_neD hr.units) (Fd.pe_m0 G_Net_ties (pv 2) T.cl_Net hr_Net_ties) (pe_ix ix_tup (pv 1) pe_int (fun _ _ => rfl)) (nomark _))))))
      (pss_one (ps_ret pe_bl))
      pss_nil)
      (pss_cons (ps_for PassesOwn.never rfl (pi_range1 (by rfl) T.n_range (pa_cons (pe_ix ix_tup (pv 1) pe_int (fun _ _ => rfl)) pa_nil)) (pg_name (i := 3) sc__law_read_alike.nd rfl (Or.inr rfl))
      (pss_cons (ps_setLc (i := 4) (own := [("_law_tie_here", 6)]) (g := gName 6) rfl sc__law_read_alike.nd rfl rfl (sw_true rfl rfl rfl (by decide +kernel)) (pi_list (pe_ix ix_tup (pv 1) pe_int (fun _ _ => rfl))) (blkOk_by (own := [("_law_tie_here", 6)]) (N := N__law_read_alike) (sc := defScope S__law_read_alike) (by decide +kernel)) (fun _ _ _ _ _ => pg_name (i := 6) sc__law_read_alike.nd rfl (Or.inl rfl)) (fun _ _ _ _ _ => (pts_one (pt_cmpR (r := rIn K false) op_in_seq (pv 3) (pv 6) (by rfl)))) (fun _ _ _ _ _ => (pe_op op_sub (pe_op op_add (pe_ix (r := rIxT K) ix_tup (pv 6) pe_int (fun _ _ => rfl)) (pe_ix (r := rIxT K) ix_tup (pv 6) pe_int (fun _ _ => rfl))) (pv 3))))
        (pss_one (ps_if (pt_cmpR (op_neD hr.units) (Fd.pe_mN G_Net_beside (pv 2) T.cl_Net hr_Net_beside Fd.pass00 (pa_cons (pv 3) pa_nil)) (pe_callB cr_sortedI (by rfl) T.n_sorted boot_sorted (pa_cons (pv 4) pa_nil)) (nomark _))
        (pss_one (ps_ret pe_bl))
        pss_nil))))
      (pss_cons (ps_set (i := 5) sc__law_read_alike.nd rfl (Or.inl rfl) (Fd.pe_mk G_Net hr_Net (by rfl) T.c_Net Fd.pass00 (pa_cons (pe_ix ix_tup (pv 1) pe_int (fun _ _ => rfl)) (pa_cons (pe_callTy call_list_of (by rfl) T.n_list boot_list (pa_cons (pe_ix ix_tup (pv 1) pe_int (fun _ _ => rfl)) pa_nil)) pa_nil))))
      (pss_cons (ps_if (PW.pt (pw_or (pt_cmpR (op_neD hr.units) (Fd.pe_fN G_parts hr_parts (by rfl) Fd.pass00 (pa_cons (pv 2) (pa_cons (pe_lst pa_nil) pa_nil))) (Fd.pe_fN G_parts hr_parts (by rfl) Fd.pass00 (pa_cons (pv 5) (pa_cons (pe_lst pa_nil) pa_nil))) (nomark _)) (pw_or1 (pt_cmpR op_ne (pe_callB call_len_seq (by rfl) T.n_len boot_len (pa_cons (Fd.pe_f G_most hr_most (by rfl) (pa_cons (pv 2) pa_nil)) pa_nil)) (pe_callB call_len_seq (by rfl) T.n_len boot_len (pa_cons (Fd.pe_f G_most hr_most (by rfl) (pa_cons (pv 5) pa_nil)) pa_nil)) (nomark _)))))
      (pss_one (ps_ret pe_bl))
      pss_nil)
      (pss_one (ps_ret (pe_and (pe_cmpR (op_eqD hr.units) (Fd.pe_f G_fence hr_fence (by rfl) (pa_cons (pv 2) pa_nil)) (Fd.pe_f G_fence hr_fence (by rfl) (pa_cons (pv 5) pa_nil)) (nomark _)) (pe_one (pe_cmpR op_eq (Fd.pe_f G_shown hr_shown (by rfl) (pa_cons (pv 2) pa_nil)) (pv 0) (nomark _))))))))))))), ?_⟩
    refine ⟨_, rfl, z, rfl, lz, fun n ts C e t l us H1 ht hl0 s1 et el pl => ?_, fun no H1 s1 => ?_⟩
    rotate_left
    · refine ⟨_, rfl, rfl, _, rfl, iteT ?_⟩
      exact ⟨_, rfl, .str z, .str, rfl, .str z, fun z' e => by cases e; omega, fun z' n ts e C => by cases e; exact no n ts C, fun H' s' => q H' (Same.trans s1 s')⟩
    refine ⟨_, rfl, rfl, _, rfl, iteF ?_⟩
    refine tnx ?_
    dsimp only
    refine tsq ?_
    refine ⟨_, rfl, .str z, .str, rfl, .str z, fun z' e => by cases e; omega, .inl ⟨z, n, ts, rfl, C, e, fun x H2 s2 N2 => ?_⟩⟩
    have s02 := Same.trans s1 s2
    have n40 := C.hi
    have n1 := C.lo
    have few := N2.few
    have lus := pl.len
    dsimp only [gName]
    refine tsq (if_no (R := Same H2) (fun Q' hq => ?_) fun H3 s3 => ?_)
    · refine ⟨_, rfl, _, _, _, _, _, rfl, ClsV.own _, net_tyx T N2, kit_same, _, rfl, ?_⟩
      obtain ⟨dx, lt, ln, us', rs', a1, _⟩ := N2.at_
      refine iteF ⟨_, rfl, x, c.Net, dx, _, _, rfl, a1, T.cl_Net, T.a_Net_size, nf_size _ _ _, _, rfl, t, _, (0 : Int), V.int n, rfl, rfl, SqT.of (s2 _ _ et), rfl, rfl, _, rfl, ?_⟩
      rw [decide_eq_true rfl]
      refine iteF ⟨_, rfl, x, dx, _, rfl, a1, nf_m_ties _ _ _, x, n, ts, rfl, N2, fun p6 u6 hp6 pr6 => ?_⟩
      have b6 := Same.new (o := .lst u6) hp6
      refine ⟨_, rfl, t, _, (1 : Int), V.ref l, rfl, rfl, SqT.of ((Same.trans s2 b6) _ _ et), rfl, dPs ts, dPs ts, dp_prs (SqL.of upd_same) (pr6.ex b6), dp_prs (SqL.of ((Same.trans s2 b6) _ _ el)) (pl.ex (Same.trans s2 b6)), shaped_dPs _, shaped_dPs _, _, rfl, ?_⟩
      rw [eqv_dPs, decide_eq_true rfl]
      exact hq _ b6
    have s13 := Same.trans s2 s3
    have s03 := Same.trans s1 s13
    have N3 := N2.ex s3
    have et3 := s13 _ _ et
    have el3 := s13 _ _ el
    have pl3 := pl.ex s13
    -- the places
    refine tnx ?_
    dsimp only
    refine ⟨_, rfl, t, _, (0 : Int), V.int n, rfl, rfl, SqT.of et3, rfl, (n : Int), rfl, by omega, by omega, for_range (lo := 0) (n := ((n : Int)).toNat) (fun i σ H' => ∃ v3 v4, σ = [some (.str z), some (.ref t), some (.ref x), v3, v4, none, none] ∧ Same H3 H')
      ⟨none, none, rfl, Same.refl H3⟩ ?_ ?_⟩
    · rintro i σ H4 hi ⟨v3, v4, rfl, s4⟩
      rw [show (0 : Int) + (i : Int) = (i : Int) from Int.zero_add _]
      have hi : i < n := by omega
      dsimp only [gName]
      have s14 := Same.trans s13 s4
      have et4 := s4 _ _ et3
      have el4 := s4 _ _ el3
      have pl4 := pl3.ex s4
      refine ⟨_, rfl, t, _, (1 : Int), V.ref l, rfl, rfl, SqT.of et4, rfl, l, rfl, ⟨_, SqL.of el4⟩, fun D1 hD1 => ?_⟩
      refine lc_list (xs := us) (fun j Hc => Same H4 Hc ∧ Hc D1 = some (.lst ((nbr (ts.take j) (i : Int)).map V.int))) ⟨Same.new hD1, upd_same⟩ (fun j Hc _ e => SqL.of (e.1 _ _ el4)) ?_ ?_
      · rintro j y Hc hj ⟨s11, hDc⟩
        obtain ⟨pz, b, hz, rfl, hb⟩ := pl4.get hj
        have hb8 := s11 _ _ hb
        have inT := List.mem_of_getElem? hz
        have tz := C.tie pz inT
        have tk : ts.take (j + 1) = ts.take j ++ [pz] := by rw [List.take_succ, hz]; rfl
        have lnb := nbr_len (i : Int) (ts.take j) []
        rw [List.length_take, List.length_nil] at lnb
        have lnb : (nbr (ts.take j) (i : Int)).length ≤ 1000 := by unfold nbr; omega
        refine ⟨rfl, _, rfl, _, rfl, b, _, rfl, .inr (SqT.of hb8), rfl, flat_ints [pz.1, pz.2], _, rfl, ?_⟩
        have e1 : inV (.int (i : Int)) [V.int pz.1, .int pz.2] = decide ((i : Int) ∈ [pz.1, pz.2]) := inV_ints (i : Int) [pz.1, pz.2]
        rw [e1]
        have tz2 := tz.2.1
        by_cases c1 : pz.1 = (i : Int)
        · rw [decide_eq_true (by rw [c1]; exact List.mem_cons_self)]
          refine iteT ⟨_, rfl, b, _, (0 : Int), V.int pz.1, rfl, rfl, SqT.of hb8, rfl, _, rfl, b, _, (1 : Int), V.int pz.2, rfl, rfl, SqT.of hb8, rfl, _, _, rfl, rfl, _, rfl, _, _, rfl, rfl, ?_⟩
          refine ⟨_, hDc, by rw [List.length_map, sizeLine_eq]; omega, Same.mut s11 hD1, ?_⟩
          rw [upd_same, tk, nbr_snoc]
          unfold nbs
          rw [if_pos c1, List.map_append]
          show some (HO.lst (_ ++ [V.int (pz.1 + pz.2 - (i : Int))])) = _
          rw [show pz.1 + pz.2 - (i : Int) = pz.2 by omega]; rfl
        · by_cases c2 : pz.2 = (i : Int)
          · rw [decide_eq_true (by rw [c2]; exact List.mem_cons_of_mem _ List.mem_cons_self)]
            refine iteT ⟨_, rfl, b, _, (0 : Int), V.int pz.1, rfl, rfl, SqT.of hb8, rfl, _, rfl, b, _, (1 : Int), V.int pz.2, rfl, rfl, SqT.of hb8, rfl, _, _, rfl, rfl, _, rfl, _, _, rfl, rfl, ?_⟩
            refine ⟨_, hDc, by rw [List.length_map, sizeLine_eq]; omega, Same.mut s11 hD1, ?_⟩
            rw [upd_same, tk, nbr_snoc]
            unfold nbs
            rw [if_neg c1, if_pos c2, List.map_append]
            show some (HO.lst (_ ++ [V.int (pz.1 + pz.2 - (i : Int))])) = _
            rw [show pz.1 + pz.2 - (i : Int) = pz.1 by omega]; rfl
          · rw [decide_eq_false fun h => by
              have hh : (i : Int) = pz.1 ∨ (i : Int) = pz.2 := by simpa using h
              rcases hh with hh | hh
              · exact c1 hh.symm
              · exact c2 hh.symm]
            refine iteF ⟨s11, ?_⟩
            rw [hDc, tk, nbr_snoc]
            unfold nbs
            rw [if_neg c1, if_neg c2]
      rintro H5 ⟨s5, hD5⟩
      rw [lus, List.take_length] at hD5
      refine tnx ?_
      dsimp only
      refine if_no (R := Same H5) (fun Q' hq => ?_) fun H6 s6 => ?_
      · have N5 := N3.ex (Same.trans s4 s5)
        obtain ⟨dx, lt, ln, us', rs', a1, _⟩ := N5.at_
        refine ⟨_, rfl, x, dx, _, rfl, a1, nf_beside _ _ _, _, rfl, x, n, ts, _, _, rfl, N5, .int _, fun i' e hi' r hr' => ?_, fun zz => ?_⟩
        rotate_left
        · have : isPl (.int (i : Int)) n = true := decide_eq_true ⟨by omega, by omega⟩
          rw [this] at zz; cases zz
        injection e with e
        obtain rfl : i = i' := by omega
        have b7 := Same.new (o := .lst ((nbr ts (i : Int)).map V.int)) hr'
        have er : upd H5 r (.lst ((nbr ts (i : Int)).map V.int)) r = some (.lst ((nbr ts (i : Int)).map V.int)) := upd_same
        generalize upd H5 r (.lst ((nbr ts (i : Int)).map V.int)) = H7 at b7 er ⊢
        refine ⟨_, rfl, D1, _, rfl, SqL.of (b7 _ _ hD5), fun ns' pS pm' up' hS => ?_⟩
        have b8 := Same.new (o := .lst (ns'.map V.int)) hS
        have e : ns' = nbr ts (i : Int) := sorted_one pm' up' (nbr_up C.tie (can_up C) _)
        subst e
        refine ⟨dIs (nbr ts (i : Int)), dIs (nbr ts (i : Int)), dp_ints (SqL.of (b8 _ _ er)), dp_ints (SqL.of upd_same), shaped_dIs _, shaped_dIs _, _, rfl, ?_⟩
        rw [eqv_dIs, decide_eq_true rfl]
        exact hq _ (Same.trans b7 b8)
      · exact ⟨_, _, rfl, Same.trans (Same.trans s4 s5) s6⟩
    rintro σ H4 ⟨v3, v4, rfl, s4⟩
    have N4 := N3.ex s4
    have s04 := Same.trans s03 s4
    -- a net made of these
    refine tnx ?_
    dsimp only
    have s14 := Same.trans s13 s4
    have et4 := s14 _ _ et
    have el4 := s14 _ _ el
    have pl4 := pl.ex s14
    refine ⟨_, rfl, t, _, (0 : Int), V.int n, rfl, rfl, SqT.of et4, rfl, _, rfl, t, _, (1 : Int), V.ref l, rfl, rfl, SqT.of et4, rfl, l, us, rfl, .inl (SqL.of el4), fun k hk => ?_⟩
    have s5 : Same H4 (upd H4 k (.lst us)) := Same.new hk
    have hk5 : upd H4 k (.lst us) k = some (.lst us) := upd_same
    have pl5 := pl4.ex s5
    generalize upd H4 k (.lst us) = H5 at s5 hk5 pl5 ⊢
    have good := good_nd (n := n) hk5 pl5 C.tie (plt_nodup (can_up C)) n1 n40
    intro y dy hy hdy ne
    refine ⟨H5, y, dy, _, _, _, _, rfl, fun b o e => by rw [upd_ne (ne_of_none e hy), upd_ne (ne_of_none e hdy)]; exact e, hy, upd_same, .int _, kl_lst hk5 pl5.kt, .inl ⟨n, ts, good, fun tsN H6 pmN s6 M => ⟨rfl, ?_⟩⟩⟩
    obtain rfl : tsN = ts := plt_one pmN M.up (can_up C)
    have M6 : NetAt c.Net H6 y n tsN := M.ex newp_same
    have s46 := Same.trans s5 s6
    have N6 := N4.ex s46
    have s06 := Same.trans s04 s46
    clear M good pl5 hk5
    refine tnx ?_
    dsimp only
    refine tsq (if_no (R := Same H6) (fun Q' hq => ?_) fun H7 s7 => ?_)
    · have nilk : ∀ v ∈ ([] : List V), ∃ t, Kd H6 v t := fun v z => by cases z
      refine ⟨_, rfl, Nat.zero_le _, fun e0 f0 => ?_⟩
      have b0 : Same H6 (upd H6 e0 (.lst [])) := Same.new f0
      have ee0 : upd H6 e0 (.lst []) e0 = some (.lst []) := upd_same
      generalize upd H6 e0 (.lst []) = H7 at b0 ee0 ⊢
      refine ⟨x, e0, n, tsN, [], rfl, N6.ex b0, ee0, fun v z => (by cases z), .inl ⟨[], rfl, fun m z => (by cases z), fun p1 rs1 H8 s8 R1 => ?_⟩⟩
      have s68 := Same.trans b0 s8
      refine ⟨_, rfl, Nat.zero_le _, fun e1 f1 => ?_⟩
      have b1 : Same H8 (upd H8 e1 (.lst [])) := Same.new f1
      have ee1 : upd H8 e1 (.lst []) e1 = some (.lst []) := upd_same
      generalize upd H8 e1 (.lst []) = H9 at b1 ee1 ⊢
      have s69 := Same.trans s68 b1
      refine ⟨y, e1, n, tsN, [], rfl, M6.ex s69, ee1, fun v z => (by cases z), .inl ⟨[], rfl, fun m z => (by cases z), fun p2 rs2 HA sA R2 => ?_⟩⟩
      have s6A := Same.trans s69 sA
      have R1' := R1.keep (Same.trans b1 sA)
      refine ⟨_, _, dp_rows R1', dp_rows R2, shaped_dIss _, shaped_dIss _, _, rfl, ?_⟩
      rw [eqv_dIss, decide_eq_true rfl]
      refine iteF ⟨_, rfl, x, n, tsN, rfl, N6.ex s6A, fun qs1 F1 m1 u1 HB g1 up1 B1 hm1 sB em1 np1 => ?_⟩
      have s6B := Same.trans s6A sB
      refine ⟨m1, u1, rfl, .inl (SqL.of em1), _, rfl, y, n, tsN, rfl, M6.ex s6B, fun qs2 F2 m2 u2 HC g2 up2 B2 hm2 sC em2 np2 => ?_⟩
      refine ⟨m2, u2, rfl, .inl (SqL.of em2), rfl, _, rfl, ?_⟩
      have e1 := np1.prs.len
      have e2 := np2.prs.len
      have e3 := (big_one g1 g2 B1 B2).2
      rw [vint, decide_eq_true (by omega)]
      exact hq _ (Same.trans s6B sC)
    have s07 := Same.trans s06 s7
    have N7 := N6.ex s7
    have M7 := M6.ex s7
    refine tnx ?_
    dsimp only
    refine ⟨_, rfl, x, n, tsN, rfl, N7, fun E1 F1 p1 H8 fr1 fe1 hp1 s8 ef1 => ?_⟩
    refine ⟨_, rfl, y, n, tsN, rfl, M7.ex s8, fun E2 F2 p2 H9 fr2 fe2 hp2 s9 ef2 => ?_⟩
    obtain rfl : E1 = E2 := Free.one fr1 fr2
    obtain rfl : F1 = F2 := fe1.one fe2
    refine ⟨dIs F1, dIs F1, dp_ints (SqL.of (s9 _ _ ef1)), dp_ints (SqL.of ef2), shaped_dIs _, shaped_dIs _, _, rfl, ?_⟩
    rw [eqv_dIs, decide_eq_true rfl]
    have s79 := Same.trans s8 s9
    refine iteT ⟨_, rfl, x, n, tsN, rfl, N7.ex s79, fun y2 HA sA ey2 => ⟨_, rfl, rfl, ?_⟩⟩
    rw [decide_eq_true (show V.str y2 = V.str z by congr 1; exact ext_tl (ey2.trans e.symm))]
    exact q _ (Same.trans s07 (Same.trans s79 sA))
end
end Od

namespace Od
open PySem PySem.Spec PyProof.Rows L2 TL
theorem at_mod {α : Type} {xs : List α} {k m : Int} (hm : (xs.length : Int) = m) (h0 : 0 < m) : ∃ v : α, atI xs (k % m) = some v ∧ v ∈ xs := by
  have a1 := Int.emod_nonneg k (show m ≠ 0 by omega)
  have a2 := Int.emod_lt_of_pos k h0
  have hl : (k % m).toNat < xs.length := by omega
  have e := List.getElem?_eq_getElem hl
  have q1 := atI_nat e
  rw [show (((k % m).toNat : Nat) : Int) = k % m by omega] at q1
  exact ⟨_, q1, List.mem_of_getElem? e⟩
theorem few780 {ps : List Pr} (h : ∀ p ∈ ps, Tie 40 p) (nd : ps.Nodup) : ps.length ≤ 780 := by
  let c1 : Pr → Nat := fun p => p.1.toNat * 40 + p.2.toNat
  let c2 : Pr → Nat := fun p => p.2.toNat * 40 + p.1.toNat
  have key := nat_nodup_len (ps.map c1 ++ ps.map c2) ((List.range 1600).filter fun x => decide (x / 40 ≠ x % 40)) ?_ ?_
  · rw [List.length_append, List.length_map, List.length_map, show ((List.range 1600).filter fun x => decide (x / 40 ≠ x % 40)).length = 1560 by decide +kernel] at key
    omega
  · refine List.nodup_append.mpr ⟨List.pairwise_map.mpr (List.Pairwise.imp_of_mem (fun {p q} hp hq ne e => ?_) nd), List.pairwise_map.mpr (List.Pairwise.imp_of_mem (fun {p q} hp hq ne e => ?_) nd), fun x hx y hy e => ?_⟩
    · obtain ⟨a, b, c⟩ := h p hp
      obtain ⟨a', b', c'⟩ := h q hq
      have e' : p.1.toNat * 40 + p.2.toNat = q.1.toNat * 40 + q.2.toNat := e
      exact ne (Prod.ext (by omega) (by omega))
    · obtain ⟨a, b, c⟩ := h p hp
      obtain ⟨a', b', c'⟩ := h q hq
      have e' : p.2.toNat * 40 + p.1.toNat = q.2.toNat * 40 + q.1.toNat := e
      exact ne (Prod.ext (by omega) (by omega))
    · obtain ⟨p, hp, rfl⟩ := List.mem_map.mp hx
      obtain ⟨q, hq, rfl⟩ := List.mem_map.mp hy
      obtain ⟨a, b, c⟩ := h p hp
      obtain ⟨a', b', c'⟩ := h q hq
      have e' : p.1.toNat * 40 + p.2.toNat = q.2.toNat * 40 + q.1.toNat := e
      omega
  · intro x hx
    rw [List.mem_filter, List.mem_range, decide_eq_true_eq]
    rcases List.mem_append.mp hx with z | z
    · obtain ⟨p, hp, rfl⟩ := List.mem_map.mp z
      obtain ⟨a, b, c⟩ := h p hp
      show p.1.toNat * 40 + p.2.toNat < 1600 ∧ (p.1.toNat * 40 + p.2.toNat) / 40 ≠ (p.1.toNat * 40 + p.2.toNat) % 40
      omega
    · obtain ⟨p, hp, rfl⟩ := List.mem_map.mp z
      obtain ⟨a, b, c⟩ := h p hp
      show p.2.toNat * 40 + p.1.toNat < 1600 ∧ (p.2.toNat * 40 + p.1.toNat) / 40 ≠ (p.2.toNat * 40 + p.1.toNat) % 40
      omega
theorem tail_len {n : Int} (hn : n ≤ 100) : ∀ {ts : List Pr}, (∀ p ∈ ts, Tie n p) → (Tx.tail ts).length ≤ ts.length * 6
  | [], _ => Nat.zero_le _
  | p :: ts, h => by
    have h1 := word_len (h p List.mem_cons_self) hn
    have h2 := tail_len hn fun q hq => h q (List.mem_cons_of_mem _ hq)
    unfold Tx.tail at *
    rw [List.flatMap_cons, List.length_append, List.length_cons (as := ts), Nat.succ_mul]
    omega
theorem txt_len {n : Nat} {ts : List Pr} (hn : n ≤ 40) (tie : ∀ p ∈ ts, Tie (n : Int) p) (nd : ts.Nodup) : (Tx.txt n ts).length ≤ 4683 := by
  have h1 := tail_len (n := (n : Int)) (by omega) tie
  have h2 := few780 (fun p hp => by
    obtain ⟨a, b, c⟩ := tie p hp
    exact ⟨a, b, by omega⟩) nd
  have h3 := Tx.numL_small (k := n) (by omega)
  unfold Tx.txt
  rw [List.length_append, List.length_cons]
  omega
theorem midN {X : TS} {D : Ends} {σ : St} {H : Hp} (R : St → Hp → Prop) (h : ∀ N : St → Hp → Prop, (∀ σ' H', R σ' H' → N σ' H') → X { D with nx := N } σ H) (k : ∀ σ' H', R σ' H' → D.nx σ' H') : X D σ H := h D.nx k
def spChanged : Sp := fun vs H Q _ => ∃ (z : Str) (a b : Int), vs = [.str z, .int a, .int b] ∧ z.length ≤ 100000 ∧ ∀ y : Str, y.length ≤ z.length + 1 → Q (.str y) H
section
variable {P : Program} {w : World} {K : PySem.W.Frag} {mg : Str → Option Value} {c : Cs} {base : Heap}
theorem ok_changed (T : Top K mg c) : Fd.Has P w K mg base CX0 1 "_law_changed" ["_law_line", "_law_cell", "_law_more"] spChanged := by
  refine T.d__law_changed.ok sc__law_changed (fun vs H Q E h => ?_) (fun f cdv A outer s H vs Q E hr h => ?_)
  · obtain ⟨z, a, b, rfl, _⟩ := h; rfl
  · obtain ⟨z, a, b, rfl, lz, q⟩ := h
    have lt := len_tl z
    refine ⟨_, (pss_cons (ps_set (i := 3) sc__law_changed.nd rfl (Or.inl rfl) pe_str)
      (pss_cons (ps_set (i := 3) sc__law_changed.nd rfl (Or.inl rfl) (pe_op op_add_str (pv 3) pe_str))
      (pss_cons (ps_set (i := 4) sc__law_changed.nd rfl (Or.inl rfl) (pe_ix ix_str (pv 3) (pe_op op_mod (pv 1) pe_int) (fun _ _ => rfl)))
      (pss_cons (ps_if (pt_cmpR op_eq (pe_op op_mod (pe_op op_fdiv (pv 1) pe_int) pe_int) pe_int (nomark _))
      (pss_one (ps_set (i := 4) sc__law_changed.nd rfl (Or.inl rfl) (pe_ix ix_str pe_str (pe_op op_mod (pe_op op_fdiv (pv 1) pe_int) pe_int) (fun _ _ => rfl))))
      pss_nil)
      (pss_cons (ps_set (i := 5) sc__law_changed.nd rfl (Or.inl rfl) (pe_op op_modN (pv 2) (pe_op op_add (pe_callB call_len_str (by rfl) T.n_len boot_len (pa_cons (pv 0) pa_nil)) pe_int)))
      (pss_cons (ps_if (pt_cmpR op_eq (pe_op op_mod (pe_op op_fdiv (pv 2) pe_int) pe_int) pe_int (nomark _))
      (pss_one (ps_ret (pe_op op_add_str (pe_op op_add_str (pe_slice sl_str (pv 0) po_none (po_some (pv 5))) (pv 4)) (pe_slice sl_str (pv 0) (po_some (pv 5)) po_none))))
      pss_nil)
      (pss_cons (ps_if (pt_cmpR op_eq (pe_op op_mod (pe_op op_fdiv (pv 2) pe_int) pe_int) pe_int (nomark _))
      (pss_one (ps_ret (pe_op op_add_str (pe_op op_add_str (pe_slice sl_str (pv 0) po_none (po_some (pv 5))) (pv 4)) (pe_slice sl_str (pv 0) (po_some (pe_op op_add (pv 5) pe_int)) po_none))))
      pss_nil)
      (pss_one (ps_ret (pe_op op_add_str (pe_slice sl_str (pv 0) po_none (po_some (pv 5))) (pe_slice sl_str (pv 0) (po_some (pe_op op_add (pv 5) pe_int)) po_none))))))))))), ?_⟩
    refine ⟨_, rfl, _, _, rfl, rfl, by decide +kernel, ?_⟩
    refine ⟨_, rfl, _, rfl, _, _, rfl, rfl, (by show (0 : Int) < 96; decide), ?_⟩
    have l96 : (Str.ofString " !\"#$&'()*+,-./0123456789:;<=>?@ABCDEFGHIJKLMNOPQRSTUVWXYZ[\\]^_`" ++ Str.ofString "abcdefghijklmnopqrstuvwxyz{|}~\n\t").cps.toList.length = 96 := by decide +kernel
    generalize (Str.ofString " !\"#$&'()*+,-./0123456789:;<=>?@ABCDEFGHIJKLMNOPQRSTUVWXYZ[\\]^_`" ++ Str.ofString "abcdefghijklmnopqrstuvwxyz{|}~\n\t") = some_ at l96 ⊢
    obtain ⟨k1, hk1, _⟩ := at_mod (xs := some_.cps.toList) (k := a) (m := 96) (by rw [l96]; rfl) (by decide)
    refine ⟨_, _, _, rfl, rfl, by have := len_tl some_; rw [sizeLine_eq]; have e : (tl some_).length = 96 := l96; omega, hk1, ?_⟩
    dsimp only [gName]
    refine tsq (midN (fun σ' H' => ∃ k : Nat, σ' = [some (.str z), some (.int a), some (.int b), some (.str some_), some (.str ⟨#[k]⟩), none] ∧ H = H') (fun Nx hN => ?_) ?_)
    · refine ⟨_, rfl, _, _, rfl, rfl, ⟨by decide, by decide⟩, _, _, rfl, rfl, (by show (0 : Int) < 2; decide), rfl, _, rfl, ?_⟩
      rw [vint]
      by_cases c1 : a / 96 % 2 = 1
      · rw [decide_eq_true c1]
        obtain ⟨k2, hk2, _⟩ := at_mod (xs := (Str.ofString "0123456789 -:").cps.toList) (k := a / 192) (m := 13) (by decide +kernel) (by decide)
        refine iteT ⟨_, rfl, _, _, rfl, rfl, ⟨by decide, by decide⟩, _, _, rfl, rfl, (by show (0 : Int) < 13; decide), _, _, _, rfl, rfl, by decide +kernel, hk2, ?_⟩
        exact hN _ _ ⟨k2, rfl, rfl⟩
      · rw [decide_eq_false c1]
        refine iteF ?_
        exact hN _ _ ⟨k1, rfl, rfl⟩
    rintro σ H' ⟨k, rfl, rfl⟩
    refine tnx ?_
    dsimp only
    have ne : ((z.length : Nat) : Int) + 1 ≠ 0 := by omega
    refine ⟨_, rfl, _, rfl, z, rfl, by rw [sizeLine_eq]; omega, _, _, rfl, rfl, _, _, rfl, rfl, ne, ?_⟩
    have b1 := Int.emod_nonneg b ne
    have b2 := Int.emod_lt_of_pos b (show (0 : Int) < ((z.length : Nat) : Int) + 1 by omega)
    dsimp only [gName]
    rw [Int.fmod_eq_emod_of_nonneg _ (by omega)]
    obtain ⟨m, hm⟩ : ∃ m : Nat, b % (((z.length : Nat) : Int) + 1) = (m : Int) := ⟨(b % (((z.length : Nat) : Int) + 1)).toNat, by omega⟩
    rw [hm] at b1 b2 ⊢
    have lone : (⟨#[k]⟩ : Str).length = 1 := rfl
    have l1 : (cutS z none (some (m : Int))).length = m := by rw [len_tl, Fs.cut_to, List.length_take]; omega
    have l2 : (cutS z (some (m : Int)) none).length = z.length - m := by rw [len_tl, Fs.cut_from, List.length_drop]; omega
    have l3 : (cutS z (some ((m : Int) + 1)) none).length ≤ z.length - m := by
      rw [len_tl, show tl (cutS z (some ((m : Int) + 1)) none) = (tl z).drop (m + 1) from Fs.cut_from z (m + 1), List.length_drop]; omega
    refine ⟨_, rfl, _, _, rfl, rfl, ⟨by decide, by decide⟩, _, _, rfl, rfl, (by show (0 : Int) < 3; decide), rfl, _, rfl, ?_⟩
    rw [vint]
    by_cases c0 : b / 1000 % 3 = 0
    · rw [decide_eq_true c0]
      refine iteT ?_
      refine ⟨_, rfl, _, rfl, _, rfl, z, rfl, by rw [sizeLine_eq]; omega, _, rfl, _, _, rfl, rfl, (by rw [sizeLine_eq]; omega), _, rfl, _, rfl, _, rfl, z, rfl, by rw [sizeLine_eq]; omega, _, _, rfl, rfl, (by rw [sizeLine_eq, Fs.len_app]; omega), q _ ?_⟩
      rw [Fs.len_app, Fs.len_app]; omega
    rw [decide_eq_false c0]
    refine iteF ?_
    refine tnx ?_
    dsimp only
    refine ⟨_, rfl, _, _, rfl, rfl, ⟨by decide, by decide⟩, _, _, rfl, rfl, (by show (0 : Int) < 3; decide), rfl, _, rfl, ?_⟩
    rw [vint]
    by_cases c1 : b / 1000 % 3 = 1
    · rw [decide_eq_true c1]
      refine iteT ?_
      refine ⟨_, rfl, _, rfl, _, rfl, z, rfl, by rw [sizeLine_eq]; omega, _, rfl, _, _, rfl, rfl, (by rw [sizeLine_eq]; omega), _, rfl, _, rfl, _, _, rfl, rfl, _, rfl, z, rfl, by rw [sizeLine_eq]; omega, _, _, rfl, rfl, ?_, q _ ?_⟩
      · rw [sizeLine_eq, Fs.len_app]; omega
      · rw [Fs.len_app, Fs.len_app]; omega
    · rw [decide_eq_false c1]
      refine iteF ?_
      refine tnx ?_
      dsimp only
      refine ⟨_, rfl, _, rfl, _, rfl, z, rfl, by rw [sizeLine_eq]; omega, _, rfl, _, rfl, _, _, rfl, rfl, _, rfl, z, rfl, by rw [sizeLine_eq]; omega, _, _, rfl, rfl, ?_, q _ ?_⟩
      · rw [sizeLine_eq]; omega
      · rw [Fs.len_app]; omega
end
end Od

namespace Od
open PySem PySem.Spec PyProof.Rows L2 TL
theorem no_can {z : Str} (h : Tx.canB (tl z) = false) : NoCan (.str z) := fun z' n ts e C => by
  injection e with e
  subst e
  exact Tx.no_can h C
def t14 : List V := [.str "", .str " ", .str ":", .str "0:", .str "41:", .str "3", .str "3: ", .str "3:0-1", .str "03:", .str "3: 1-0", .str "3: 0-3", .str "3: 0-1 0-1", .str "3: 0--1", .str "3:\n"]
theorem t14_no : ∀ y ∈ t14, ∃ z : Str, y = .str z ∧ z.length ≤ 100 ∧ Tx.canB (tl z) = false := by
  unfold t14
  intro y hy
  simp only [List.mem_cons, List.not_mem_nil, or_false] at hy
  rcases hy with rfl | rfl | rfl | rfl | rfl | rfl | rfl | rfl | rfl | rfl | rfl | rfl | rfl | rfl
  all_goals exact ⟨_, rfl, by decide +kernel, by decide +kernel⟩
section
variable {P : Program} {w : World} {K : PySem.W.Frag} {mg : Str → Option Value} {c : Cs} {base : Heap}
theorem ok_law (T : Top K mg c) {fl : Addr} {fdl : FuncData} (FL : Fun K "law" "law" S_law fl fdl) : FnOk P w K mg base CX0 11 fl fdl ["_law_script"] (spLaw K) := by
  have G__law_cell_at : Fd.Has P w K mg base CX0 1 "_law_cell_at" ["_law_script", "_law_k"] (spCell K) := ok_cell T
  have G__law_net_by : Fd.Has P w K mg base CX0 3 "_law_net_by" ["_law_script", "_law_bound"] (spNetBy K) := ok_net_by T
  have G_Net : Fd.IHas P w K mg base (L2N.CX P w) 6 c.Net ["self", "size", "ties"] (spInit c.Net c.BadNet) := ok_init T
  have G_Net_ties : Fd.MHas P w K mg base CX0 1 c.Net "ties" ["self"] (spTies c.Net) := ok_ties T
  have G_shown : Fd.Has P w K mg base CX0 2 "shown" ["net"] (spShown c.Net) := ok_shown T
  have G__law_text : Fd.Has P w K mg base CX0 2 "_law_text" ["_law_size", "_law_ties"] spTextL := ok_textL T
  have G__law_read_alike : Fd.Has P w K mg base CX0 10 "_law_read_alike" ["_law_line"] (spAlike c.Net) := ok_alike T
  have G__law_changed : Fd.Has P w K mg base CX0 1 "_law_changed" ["_law_line", "_law_cell", "_law_more"] spChanged := ok_changed T
  have G__law_refused : Fd.Has P w K mg base CX0 9 "_law_refused" ["_law_line"] (spRefT c.Net) := ok_refT T
  refine FL.ok sc_law (fun vs H Q E h => ?_) (fun cdv A outer s H vs Q E hr h => ?_)
  · obtain ⟨a, ns, rfl, _⟩ := h; rfl
  · obtain ⟨a, ns, rfl, hs, hlen, q⟩ := h
    have hr__law_cell_at := hr.mono (show 1 ≤ 10 by decide)
    have hr__law_net_by := hr.mono (show 3 ≤ 10 by decide)
    have hr_Net := hr.mono (show 7 ≤ 10 by decide)
    have hr_Net_ties := hr.mono (show 1 ≤ 10 by decide)
    have hr_shown := hr.mono (show 2 ≤ 10 by decide)
    have hr__law_text := hr.mono (show 2 ≤ 10 by decide)
    have hr__law_read_alike := hr
    have hr__law_changed := hr.mono (show 1 ≤ 10 by decide)
    have hr__law_refused := hr.mono (show 9 ≤ 10 by decide)
    refine ⟨_, (pss_cons (ps_asg (Fd.pe_f G__law_net_by hr__law_net_by (by rfl) (pa_cons (pv 0) (pa_cons pe_int pa_nil))) (pg_tup rfl (pgs_cons (pg_name (i := 1) sc_law.nd rfl (Or.inl rfl)) (pgs_cons (pg_name (i := 2) sc_law.nd rfl (Or.inl rfl)) pgs_nil))))
      (pss_cons (ps_set (i := 3) sc_law.nd rfl (Or.inl rfl) (Fd.pe_mk G_Net hr_Net (by rfl) T.c_Net Fd.pass00 (pa_cons (pv 1) (pa_cons (pe_callTy call_list_of (by rfl) T.n_list boot_list (pa_cons (pv 2) pa_nil)) pa_nil))))
      (pss_cons (ps_set (i := 4) sc_law.nd rfl (Or.inl rfl) (Fd.pe_f G_shown hr_shown (by rfl) (pa_cons (pv 3) pa_nil)))
      (pss_cons (ps_if (PW.pt (pw_or (pt_not (pt_val (pe_callB (r := rIsi K) call_isi (by rfl) T.n_isinstance boot_isinstance (pa_cons (pv 4) (pa_cons (pe_bltn (v := .ty "str") (by rfl) T.n_str boot_str rfl) pa_nil))))) (pw_or (pt_cmpR op_ne (pv 4) (Fd.pe_f G__law_text hr__law_text (by rfl) (pa_cons (pv 1) (pa_cons (pv 2) pa_nil))) (nomark _)) (pw_or1 (pt_cmpR (op_neD hr.units) (Fd.pe_m0 G_Net_ties (pv 3) T.cl_Net hr_Net_ties) (pv 2) (nomark _))))))
      (pss_one (ps_ret pe_bl))
      pss_nil)
      (pss_cons (ps_if (pt_not (pt_val (Fd.pe_f G__law_read_alike hr__law_read_alike (by rfl) (pa_cons (pv 4) pa_nil))))
      (pss_one (ps_ret pe_bl))
      pss_nil)
      (pss_cons (ps_if (pt_not (pt_val (Fd.pe_f G__law_read_alike hr__law_read_alike (by rfl) (pa_cons (Fd.pe_f G__law_changed hr__law_changed (by rfl) (pa_cons (pv 4) (pa_cons (Fd.pe_f G__law_cell_at hr__law_cell_at (by rfl) (pa_cons (pv 0) (pa_cons pe_int pa_nil))) (pa_cons (Fd.pe_f G__law_cell_at hr__law_cell_at (by rfl) (pa_cons (pv 0) (pa_cons pe_int pa_nil))) pa_nil)))) pa_nil))))
      (pss_one (ps_ret pe_bl))
      pss_nil)
      (pss_cons (ps_set (i := 5) sc_law.nd rfl (Or.inl rfl) (pe_lst (pa_cons pe_str (pa_cons pe_str (pa_cons pe_str (pa_cons pe_str (pa_cons pe_str (pa_cons pe_str (pa_cons pe_str (pa_cons pe_str (pa_cons pe_str (pa_cons pe_str (pa_cons pe_str (pa_cons pe_str (pa_cons pe_str (pa_cons pe_str pa_nil))))))))))))))))
      (pss_cons (ps_if (pt_not (pt_val (Fd.pe_f G__law_refused hr__law_refused (by rfl) (pa_cons (pe_ix ix_list (pv 5) (pe_op op_mod (Fd.pe_f G__law_cell_at hr__law_cell_at (by rfl) (pa_cons (pv 0) (pa_cons pe_int pa_nil))) pe_int) (fun _ _ => rfl)) pa_nil))))
      (pss_one (ps_ret pe_bl))
      pss_nil)
      (pss_one (ps_ret (Fd.pe_f G__law_refused hr__law_refused (by rfl) (pa_cons (pe_ix ix_list (pe_lst (pa_cons pe_non (pa_cons pe_int (pa_cons (pe_lst (pa_cons pe_str pa_nil)) pa_nil)))) (pe_op op_mod (pe_op op_fdiv (Fd.pe_f G__law_cell_at hr__law_cell_at (by rfl) (pa_cons (pv 0) (pa_cons pe_int pa_nil))) pe_int) pe_int) (fun _ _ => rfl)) pa_nil)))))))))))), ?_⟩
    refine ⟨_, rfl, a, ns, 11, rfl, hs, by decide, by decide, fun t p us H1 hp s1 hp1 np ht => ?_⟩
    have bd := netSize_bd ns (b := 11) (by decide) (by decide)
    have tie := fun (x : Pr) (hx : x ∈ netTies ns 11) => tiesBy_tie hx
    have up : (netTies ns 11).Pairwise plt := tiesBy_up _ _ _
    generalize netTies ns 11 = ts at np tie up
    obtain ⟨n, hn⟩ : ∃ n : Nat, netSize ns 11 = (n : Int) := ⟨(netSize ns 11).toNat, by omega⟩
    rw [hn] at bd tie ht
    have few := few_ties bd.2 tie (plt_nodup up)
    have prs1 := np.prs
    have lus := prs1.len
    refine ⟨t, _, rfl, SqT.of ht, rfl, _, _, rfl, _, _, rfl, rfl, ?_⟩
    -- the net
    refine ⟨_, rfl, _, rfl, p, us, rfl, .inl (SqL.of hp1), fun k hk => ?_⟩
    have s2 : Same H1 (upd H1 k (.lst us)) := Same.new hk
    have hk2 : upd H1 k (.lst us) k = some (.lst us) := upd_same
    have prs2 := prs1.ex s2
    generalize upd H1 k (.lst us) = H2 at s2 hk2 prs2 ⊢
    have good := good_nd (n := n) hk2 prs2 tie (plt_nodup up) (by omega) (by omega)
    intro x dx hx hdx ne
    refine ⟨H2, x, dx, _, _, _, _, rfl, fun b o e => by rw [upd_ne (ne_of_none e hx), upd_ne (ne_of_none e hdx)]; exact e, hx, upd_same, .int _, kl_lst hk2 prs2.kt, .inl ⟨n, ts, good, fun tsN H3 pmN s3 N => ⟨rfl, ?_⟩⟩⟩
    obtain rfl : tsN = ts := plt_one pmN N.up up
    have N3 : NetAt c.Net H3 x n tsN := N.ex newp_same
    have s13 := Same.trans s2 s3
    have s03 := Same.trans s1 s13
    have hp3 := s13 _ _ hp1
    have prs3 := prs1.ex s13
    clear N good prs2 hk2
    have n40 := N3.hi
    have n1 := N3.lo
    -- its text
    refine ⟨_, rfl, x, n, tsN, rfl, N3, fun z H4 s4 ez => ?_⟩
    have lz : z.length ≤ 4683 := by rw [len_tl, ez]; exact txt_len n40 tie (plt_nodup up)
    have N4 := N3.ex s4
    refine tnx ?_
    dsimp only
    refine tsq (if_no (R := Same H4) (fun Q' hq => ?_) fun H5 s5 => ?_)
    · refine ⟨_, rfl, _, _, _, _, _, rfl, ClsV.ty _, (Kd.str (H := H4) z).tyx, kit_ty (kit_str _), _, rfl, ?_⟩
      rw [decide_eq_true rfl]
      refine iteF ⟨_, rfl, _, rfl, _, rfl, n, p, us, tsN, rfl, n40, s4 _ _ hp3, prs3.ex s4, tie, by omega, fun y H5 s5 ey => ⟨rfl, _, rfl, ?_⟩⟩
      rw [decide_eq_true (show V.str z = V.str y by congr 1; exact ext_tl (ez.trans ey.symm))]
      obtain ⟨dx', lt', ln', us', rs', a1, _⟩ := (N4.ex s5).at_
      refine iteF ⟨_, rfl, x, dx', _, rfl, a1, nf_m_ties _ _ _, x, n, tsN, rfl, N4.ex s5, fun p6 u6 hp6 pr6 => ?_⟩
      have b6 := Same.new (o := .lst u6) hp6
      have s46 := Same.trans s4 (Same.trans s5 b6)
      refine ⟨_, rfl, dPs tsN, dPs tsN, dp_prs (SqL.of upd_same) (pr6.ex b6), dp_prs (SqL.of (s46 _ _ hp3)) (prs3.ex s46), shaped_dPs _, shaped_dPs _, _, rfl, ?_⟩
      rw [eqv_dPs, decide_eq_true rfl]
      exact hq _ (Same.trans s5 b6)
    have s05 := Same.trans s03 (Same.trans s4 s5)
    -- read
    refine tnx ?_
    dsimp only
    refine tsq (if_no (R := Same H5) (fun Q' hq => ?_) fun H6 s6 => ?_)
    · refine ⟨_, rfl, z, rfl, by omega, fun H' s' => ⟨_, rfl, ?_⟩⟩
      exact hq _ s'
    have s06 := Same.trans s05 s6
    -- read, changed
    refine tnx ?_
    dsimp only
    refine tsq (if_no (R := Same H6) (fun Q' hq => ?_) fun H7 s7 => ?_)
    · refine ⟨_, rfl, _, rfl, a, ns, 28, rfl, s06.seq hs, by decide, _, rfl, a, ns, 29, rfl, s06.seq hs, by decide, z, _, _, rfl, by omega, fun y ly => ?_⟩
      refine ⟨y, rfl, by omega, fun H' s' => ⟨_, rfl, ?_⟩⟩
      exact hq _ s'
    have s07 := Same.trans s06 s7
    -- texts that write no net
    refine tnx ?_
    dsimp only
    refine ⟨(by show 14 ≤ sizeLine; decide), fun e0 f0 => ?_⟩
    have b8 : Same H7 (upd H7 e0 (.lst t14)) := Same.new f0
    have ee0 : upd H7 e0 (.lst t14) e0 = some (.lst t14) := upd_same
    show gName 5 (.ref e0) _ (upd H7 e0 (.lst t14)) _
    generalize upd H7 e0 (.lst t14) = H8 at b8 ee0 ⊢
    have s08 := Same.trans s07 b8
    obtain ⟨y0, ay, iy⟩ := at_mod (xs := t14) (k := cell ns 2) (m := 14) rfl (by decide)
    obtain ⟨z0, rfl, l0, no⟩ := t14_no y0 iy
    refine tnx ?_
    dsimp only
    refine tsq (if_no (R := Same H8) (fun Q' hq => ?_) fun H9 s9 => ?_)
    · refine ⟨_, rfl, _, rfl, a, ns, 2, rfl, s08.seq hs, by decide, _, _, rfl, rfl, (by show (0 : Int) < 14; decide), e0, _, _, V.str z0, rfl, rfl, SqL.of ee0, ay, ?_⟩
      refine ⟨.str z0, .str, rfl, .str z0, fun z' e => by cases e; omega, no_can no, fun H' s' => ⟨_, rfl, ?_⟩⟩
      exact hq _ s'
    have s09 := Same.trans s08 s9
    refine tnx ?_
    dsimp only
    refine ⟨(by show 1 ≤ sizeLine; decide), fun e1 f1 => ?_⟩
    have b10 : Same H9 (upd H9 e1 (.lst [V.str "1:"])) := Same.new f1
    have ee1 : upd H9 e1 (.lst [V.str "1:"]) e1 = some (.lst [V.str "1:"]) := upd_same
    generalize upd H9 e1 (.lst [V.str "1:"]) = HA at b10 ee1 ⊢
    refine ⟨(by show 3 ≤ sizeLine; decide), fun e2 f2 => ?_⟩
    have b11 : Same HA (upd HA e2 (.lst [V.non, V.int 5, V.ref e1])) := Same.new f2
    have ee2 : upd HA e2 (.lst [V.non, V.int 5, V.ref e1]) e2 = some (.lst [V.non, V.int 5, V.ref e1]) := upd_same
    generalize upd HA e2 (.lst [V.non, V.int 5, V.ref e1]) = HB at b11 ee2 ⊢
    have s0B := Same.trans (Same.trans s09 b10) b11
    obtain ⟨y1, ay1, iy1⟩ := at_mod (xs := [V.non, V.int 5, V.ref e1]) (k := cell ns 2 / 14) (m := 3) rfl (by decide)
    have k1 : (∃ t, Kd HB y1 t) ∧ ∀ z, y1 ≠ .str z := by
      simp only [List.mem_cons, List.not_mem_nil, or_false] at iy1
      rcases iy1 with rfl | rfl | rfl
      · exact ⟨⟨_, .non⟩, fun z => nofun⟩
      · exact ⟨⟨_, .int _⟩, fun z => nofun⟩
      · exact ⟨⟨_, .lst (b11 _ _ ee1)⟩, fun z => nofun⟩
    obtain ⟨⟨ty, ky⟩, ny⟩ := k1
    refine ⟨_, rfl, a, ns, 2, rfl, s0B.seq hs, by decide, _, _, rfl, rfl, ⟨by decide, by decide⟩, _, _, rfl, rfl, (by show (0 : Int) < 3; decide), e2, _, _, y1, rfl, rfl, SqL.of ee2, ay1, ?_⟩
    exact ⟨y1, ty, rfl, ky, fun z' e => absurd e (ny z'), fun z' n' ts' e => absurd e (ny z'), fun H' _ => q H'⟩
end
end Od

namespace Od
open PySem PySem.Spec PyProof.Rows L2
theorem kit_self {K : PySem.W.Frag} {D : Addr} : PySem.W.kitOne K (.ref D) (.ref D) = some true := if_pos (beq_self_eq_true _)
theorem kit_own {K : PySem.W.Frag} {D C : Addr} {b : Bool} (i : PySem.W.isClsIn K C = true) (t : PySem.W.typeIn K (.ref C) = some (.type "type")) (s : PySem.W.subIn K (.ref D) (.ref C) = some b) (sd : PySem.W.subIn K (.ref D) (.ref D) = some true) :
    PySem.W.kitOne K (.ref D) (.ref C) = some b := by
  unfold PySem.W.kitOne
  by_cases c : D = C
  · subst c
    rw [if_pos (beq_self_eq_true _), ← s, sd]
  · rw [if_neg (by rw [beq_iff_eq]; intro z; injection z with z; exact c z)]
    unfold PySem.W.kitCls
    have h : ((PySem.W.clsIn K C).isSome && PySem.W.typeIn K (.ref C) == some (.type "type")) = true := by
      rw [t, show (PySem.W.clsIn K C).isSome = true from i]; rfl
    simp only [h, if_true]
    exact s
theorem kit_val {K : PySem.W.Frag} {D : Addr} (s : PySem.W.subIn K (.ref D) (.type "ValueError") = some true) : PySem.W.kitOne K (.ref D) (.type "ValueError") = some true := by
  unfold PySem.W.kitOne
  rw [if_neg (by rw [beq_iff_eq]; intro z; cases z)]
  unfold PySem.W.kitCls
  have h : PySem.W.kitMeta "ValueError" = true := by decide +kernel
  simp only [h, if_true]
  exact s
end Od

set_option maxRecDepth 110000
namespace Od
open PySem PySem.Spec PyProof.Rows L2
open PySem.W (mg_of mg_none_of)
theorem all_mk {l : PySem.W.OpenLaw} {w : World} {K : PySem.W.Frag} {h : Heap} {mg : Str → Option Value} {fa : Addr} (X : K.In h) (G : h.Ns mainGlobals mg) (hfa : mg "law" = some (.ref fa))
    {CNetError CBadNet CNoPlace CBadPairs CBadWay CTieThere CNoTie COddRing CNet : Addr} {tkMOST_PLACES tkFIGURES tkMOST_FIGURES : Tok} {f1 f2 f3 f4 f5 f6 f7 f8 f9 f10 f11 f12 f13 f14 f15 f16 f17 f18 f19 f20 f21 f22 f23 f24 f25 f26 f27 f28 f29 f30 f31 f32 f33 f34 f35 f36 f37 f38 f39 f40 f41 f42 f43 f44 f45 : Addr} {od1 an1 od2 an2 od3 an3 od4 an4 od5 an5 od6 an6 od7 an7 od8 an8 od9 an9 od10 an10 od11 an11 od12 an12 od13 an13 od14 an14 od15 an15 od16 an16 od17 an17 od18 an18 od19 an19 od20 an20 od21 an21 od22 an22 od23 an23 od24 an24 od25 an25 od26 an26 od27 an27 od28 an28 od29 an29 od30 an30 od31 an31 od32 an32 od33 an33 od34 an34 od35 an35 od36 an36 od37 an37 od38 an38 od39 an39 od40 an40 od41 an41 od42 an42 od43 an43 od44 an44 od45 an45 : Option Addr} {sl1 sl2 sl3 sl4 sl5 sl6 sl7 sl8 sl9 sl10 sl11 sl12 sl13 sl14 sl15 sl16 sl17 sl18 sl19 sl20 sl21 sl22 sl23 sl24 sl25 sl26 sl27 sl28 sl29 sl30 sl31 sl32 sl33 sl34 sl35 sl36 sl37 sl38 sl39 sl40 sl41 sl42 sl43 sl44 sl45 : Array (Option Value)} {oc1 kV1 dc1 pm1 cd1 ct1 oc2 kV2 dc2 pm2 cd2 ct2 oc3 kV3 dc3 pm3 cd3 ct3 oc4 kV4 dc4 pm4 cd4 ct4 oc5 kV5 dc5 pm5 cd5 ct5 oc6 kV6 dc6 pm6 cd6 ct6 oc7 kV7 dc7 pm7 cd7 ct7 oc8 kV8 dc8 pm8 cd8 ct8 oc9 kV9 dc9 pm9 cd9 ct9 oc10 kV10 dc10 pm10 cd10 ct10 oc11 kV11 dc11 pm11 cd11 ct11 oc12 kV12 dc12 pm12 cd12 ct12 oc13 kV13 dc13 pm13 cd13 ct13 oc14 kV14 dc14 pm14 cd14 ct14 oc15 kV15 dc15 pm15 cd15 ct15 oc16 kV16 dc16 pm16 cd16 ct16 oc17 kV17 dc17 pm17 cd17 ct17 oc18 kV18 dc18 pm18 cd18 ct18 oc19 kV19 dc19 pm19 cd19 ct19 oc20 kV20 dc20 pm20 cd20 ct20 oc21 kV21 dc21 pm21 cd21 ct21 oc22 kV22 dc22 pm22 cd22 ct22 oc23 kV23 dc23 pm23 cd23 ct23 oc24 kV24 dc24 pm24 cd24 ct24 oc25 kV25 dc25 pm25 cd25 ct25 oc26 kV26 dc26 pm26 cd26 ct26 oc27 kV27 dc27 pm27 cd27 ct27 oc28 kV28 dc28 pm28 cd28 ct28 oc29 kV29 dc29 pm29 cd29 ct29 oc30 kV30 dc30 pm30 cd30 ct30 oc31 kV31 dc31 pm31 cd31 ct31 oc32 kV32 dc32 pm32 cd32 ct32 oc33 kV33 dc33 pm33 cd33 ct33 oc34 kV34 dc34 pm34 cd34 ct34 oc35 kV35 dc35 pm35 cd35 ct35 oc36 kV36 dc36 pm36 cd36 ct36 oc37 kV37 dc37 pm37 cd37 ct37 oc38 kV38 dc38 pm38 cd38 ct38 oc39 kV39 dc39 pm39 cd39 ct39 oc40 kV40 dc40 pm40 cd40 ct40 oc41 kV41 dc41 pm41 cd41 ct41 oc42 kV42 dc42 pm42 cd42 ct42 oc43 kV43 dc43 pm43 cd43 ct43 oc44 kV44 dc44 pm44 cd44 ct44 oc45 kV45 dc45 pm45 cd45 ct45 : Value}
    (gNetError : PySem.W.nsIn K mainGlobals "NetError" = some (some (.ref CNetError)))
    (gBadNet : PySem.W.nsIn K mainGlobals "BadNet" = some (some (.ref CBadNet)))
    (gNoPlace : PySem.W.nsIn K mainGlobals "NoPlace" = some (some (.ref CNoPlace)))
    (gBadPairs : PySem.W.nsIn K mainGlobals "BadPairs" = some (some (.ref CBadPairs)))
    (gBadWay : PySem.W.nsIn K mainGlobals "BadWay" = some (some (.ref CBadWay)))
    (gTieThere : PySem.W.nsIn K mainGlobals "TieThere" = some (some (.ref CTieThere)))
    (gNoTie : PySem.W.nsIn K mainGlobals "NoTie" = some (some (.ref CNoTie)))
    (gOddRing : PySem.W.nsIn K mainGlobals "OddRing" = some (some (.ref COddRing)))
    (gNet : PySem.W.nsIn K mainGlobals "Net" = some (some (.ref CNet)))
    (xNetError : PySem.W.excIn K CNetError [.type "ValueError", .type "Exception", .type "BaseException", .type "object"] "ValueError.__new__" = true)
    (pNetError : PySem.W.keepIn K (.ref CNetError) = true)
    (bNetError : PySem.W.subIn K (.ref CNetError) (.type "BaseException") = some true)
    (tNetError : PySem.W.typeIn K (.ref CNetError) = some (.type "type"))
    (hNetError : PySem.W.hasDictIn K CNetError = true)
    (iNetError : PySem.W.isClsIn K CNetError = true)
    (sNetError : PySem.W.subIn K (.ref CNetError) (.ref CNetError) = some true)
    (xBadNet : PySem.W.excIn K CBadNet [.type "ValueError", .type "Exception", .type "BaseException", .type "object"] "ValueError.__new__" = true)
    (pBadNet : PySem.W.keepIn K (.ref CBadNet) = true)
    (bBadNet : PySem.W.subIn K (.ref CBadNet) (.type "BaseException") = some true)
    (tBadNet : PySem.W.typeIn K (.ref CBadNet) = some (.type "type"))
    (hBadNet : PySem.W.hasDictIn K CBadNet = true)
    (iBadNet : PySem.W.isClsIn K CBadNet = true)
    (sBadNet : PySem.W.subIn K (.ref CBadNet) (.ref CBadNet) = some true)
    (xNoPlace : PySem.W.excIn K CNoPlace [.type "ValueError", .type "Exception", .type "BaseException", .type "object"] "ValueError.__new__" = true)
    (pNoPlace : PySem.W.keepIn K (.ref CNoPlace) = true)
    (bNoPlace : PySem.W.subIn K (.ref CNoPlace) (.type "BaseException") = some true)
    (tNoPlace : PySem.W.typeIn K (.ref CNoPlace) = some (.type "type"))
    (hNoPlace : PySem.W.hasDictIn K CNoPlace = true)
    (iNoPlace : PySem.W.isClsIn K CNoPlace = true)
    (sNoPlace : PySem.W.subIn K (.ref CNoPlace) (.ref CNoPlace) = some true)
    (xBadPairs : PySem.W.excIn K CBadPairs [.type "ValueError", .type "Exception", .type "BaseException", .type "object"] "ValueError.__new__" = true)
    (pBadPairs : PySem.W.keepIn K (.ref CBadPairs) = true)
    (bBadPairs : PySem.W.subIn K (.ref CBadPairs) (.type "BaseException") = some true)
    (tBadPairs : PySem.W.typeIn K (.ref CBadPairs) = some (.type "type"))
    (hBadPairs : PySem.W.hasDictIn K CBadPairs = true)
    (iBadPairs : PySem.W.isClsIn K CBadPairs = true)
    (sBadPairs : PySem.W.subIn K (.ref CBadPairs) (.ref CBadPairs) = some true)
    (xBadWay : PySem.W.excIn K CBadWay [.type "ValueError", .type "Exception", .type "BaseException", .type "object"] "ValueError.__new__" = true)
    (pBadWay : PySem.W.keepIn K (.ref CBadWay) = true)
    (bBadWay : PySem.W.subIn K (.ref CBadWay) (.type "BaseException") = some true)
    (tBadWay : PySem.W.typeIn K (.ref CBadWay) = some (.type "type"))
    (hBadWay : PySem.W.hasDictIn K CBadWay = true)
    (iBadWay : PySem.W.isClsIn K CBadWay = true)
    (sBadWay : PySem.W.subIn K (.ref CBadWay) (.ref CBadWay) = some true)
    (xTieThere : PySem.W.excIn K CTieThere [.type "ValueError", .type "Exception", .type "BaseException", .type "object"] "ValueError.__new__" = true)
    (pTieThere : PySem.W.keepIn K (.ref CTieThere) = true)
    (bTieThere : PySem.W.subIn K (.ref CTieThere) (.type "BaseException") = some true)
    (tTieThere : PySem.W.typeIn K (.ref CTieThere) = some (.type "type"))
    (hTieThere : PySem.W.hasDictIn K CTieThere = true)
    (iTieThere : PySem.W.isClsIn K CTieThere = true)
    (sTieThere : PySem.W.subIn K (.ref CTieThere) (.ref CTieThere) = some true)
    (xNoTie : PySem.W.excIn K CNoTie [.type "ValueError", .type "Exception", .type "BaseException", .type "object"] "ValueError.__new__" = true)
    (pNoTie : PySem.W.keepIn K (.ref CNoTie) = true)
    (bNoTie : PySem.W.subIn K (.ref CNoTie) (.type "BaseException") = some true)
    (tNoTie : PySem.W.typeIn K (.ref CNoTie) = some (.type "type"))
    (hNoTie : PySem.W.hasDictIn K CNoTie = true)
    (iNoTie : PySem.W.isClsIn K CNoTie = true)
    (sNoTie : PySem.W.subIn K (.ref CNoTie) (.ref CNoTie) = some true)
    (xOddRing : PySem.W.excIn K COddRing [.type "ValueError", .type "Exception", .type "BaseException", .type "object"] "ValueError.__new__" = true)
    (pOddRing : PySem.W.keepIn K (.ref COddRing) = true)
    (bOddRing : PySem.W.subIn K (.ref COddRing) (.type "BaseException") = some true)
    (tOddRing : PySem.W.typeIn K (.ref COddRing) = some (.type "type"))
    (hOddRing : PySem.W.hasDictIn K COddRing = true)
    (iOddRing : PySem.W.isClsIn K COddRing = true)
    (sOddRing : PySem.W.subIn K (.ref COddRing) (.ref COddRing) = some true)
    (oG : PySem.W.specialIn K (.builtin "object.__class__") "__get__" = some (some (.builtin "getset_descriptor.__get__")))
    (oT : PySem.W.takesIn K (.builtin "object.__class__") = some true)
    (e1BadNet : PySem.W.findIn K (.ref CBadNet) "__getattribute__" = some (some (.builtin "BaseException.__getattribute__")))
    (e2BadNet : PySem.W.findIn K (.ref CBadNet) "__getattr__" = some none)
    (e3BadNet : PySem.W.findIn K (.ref CBadNet) "__class__" = some (some (.builtin "object.__class__")))
    (e4BadNet : PySem.W.mroIn K CBadNet (.type "object") = some true)
    (e5BadNet : PySem.W.subIn K (.ref CBadNet) (.type "ValueError") = some true)
    (e6BadNet : PySem.W.subIn K (.ref CBadNet) (.ref CNetError) = some true)
    (uBadNet_NoPlace : PySem.W.subIn K (.ref CBadNet) (.ref CNoPlace) = some false)
    (uBadNet_BadPairs : PySem.W.subIn K (.ref CBadNet) (.ref CBadPairs) = some false)
    (uBadNet_BadWay : PySem.W.subIn K (.ref CBadNet) (.ref CBadWay) = some false)
    (uBadNet_TieThere : PySem.W.subIn K (.ref CBadNet) (.ref CTieThere) = some false)
    (uBadNet_NoTie : PySem.W.subIn K (.ref CBadNet) (.ref CNoTie) = some false)
    (uBadNet_OddRing : PySem.W.subIn K (.ref CBadNet) (.ref COddRing) = some false)
    (e1NoPlace : PySem.W.findIn K (.ref CNoPlace) "__getattribute__" = some (some (.builtin "BaseException.__getattribute__")))
    (e2NoPlace : PySem.W.findIn K (.ref CNoPlace) "__getattr__" = some none)
    (e3NoPlace : PySem.W.findIn K (.ref CNoPlace) "__class__" = some (some (.builtin "object.__class__")))
    (e4NoPlace : PySem.W.mroIn K CNoPlace (.type "object") = some true)
    (e5NoPlace : PySem.W.subIn K (.ref CNoPlace) (.type "ValueError") = some true)
    (e6NoPlace : PySem.W.subIn K (.ref CNoPlace) (.ref CNetError) = some true)
    (uNoPlace_BadNet : PySem.W.subIn K (.ref CNoPlace) (.ref CBadNet) = some false)
    (uNoPlace_BadPairs : PySem.W.subIn K (.ref CNoPlace) (.ref CBadPairs) = some false)
    (uNoPlace_BadWay : PySem.W.subIn K (.ref CNoPlace) (.ref CBadWay) = some false)
    (uNoPlace_TieThere : PySem.W.subIn K (.ref CNoPlace) (.ref CTieThere) = some false)
    (uNoPlace_NoTie : PySem.W.subIn K (.ref CNoPlace) (.ref CNoTie) = some false)
    (uNoPlace_OddRing : PySem.W.subIn K (.ref CNoPlace) (.ref COddRing) = some false)
    (e1BadPairs : PySem.W.findIn K (.ref CBadPairs) "__getattribute__" = some (some (.builtin "BaseException.__getattribute__")))
    (e2BadPairs : PySem.W.findIn K (.ref CBadPairs) "__getattr__" = some none)
    (e3BadPairs : PySem.W.findIn K (.ref CBadPairs) "__class__" = some (some (.builtin "object.__class__")))
    (e4BadPairs : PySem.W.mroIn K CBadPairs (.type "object") = some true)
    (e5BadPairs : PySem.W.subIn K (.ref CBadPairs) (.type "ValueError") = some true)
    (e6BadPairs : PySem.W.subIn K (.ref CBadPairs) (.ref CNetError) = some true)
    (uBadPairs_BadNet : PySem.W.subIn K (.ref CBadPairs) (.ref CBadNet) = some false)
    (uBadPairs_NoPlace : PySem.W.subIn K (.ref CBadPairs) (.ref CNoPlace) = some false)
    (uBadPairs_BadWay : PySem.W.subIn K (.ref CBadPairs) (.ref CBadWay) = some false)
    (uBadPairs_TieThere : PySem.W.subIn K (.ref CBadPairs) (.ref CTieThere) = some false)
    (uBadPairs_NoTie : PySem.W.subIn K (.ref CBadPairs) (.ref CNoTie) = some false)
    (uBadPairs_OddRing : PySem.W.subIn K (.ref CBadPairs) (.ref COddRing) = some false)
    (e1BadWay : PySem.W.findIn K (.ref CBadWay) "__getattribute__" = some (some (.builtin "BaseException.__getattribute__")))
    (e2BadWay : PySem.W.findIn K (.ref CBadWay) "__getattr__" = some none)
    (e3BadWay : PySem.W.findIn K (.ref CBadWay) "__class__" = some (some (.builtin "object.__class__")))
    (e4BadWay : PySem.W.mroIn K CBadWay (.type "object") = some true)
    (e5BadWay : PySem.W.subIn K (.ref CBadWay) (.type "ValueError") = some true)
    (e6BadWay : PySem.W.subIn K (.ref CBadWay) (.ref CNetError) = some true)
    (uBadWay_BadNet : PySem.W.subIn K (.ref CBadWay) (.ref CBadNet) = some false)
    (uBadWay_NoPlace : PySem.W.subIn K (.ref CBadWay) (.ref CNoPlace) = some false)
    (uBadWay_BadPairs : PySem.W.subIn K (.ref CBadWay) (.ref CBadPairs) = some false)
    (uBadWay_TieThere : PySem.W.subIn K (.ref CBadWay) (.ref CTieThere) = some false)
    (uBadWay_NoTie : PySem.W.subIn K (.ref CBadWay) (.ref CNoTie) = some false)
    (uBadWay_OddRing : PySem.W.subIn K (.ref CBadWay) (.ref COddRing) = some false)
    (pgNet : PySem.W.plainGet K CNet Str.empty = true)
    (hdNet : PySem.W.hasDictIn K CNet = true)
    (poNet : PySem.W.plainOver K CNet = true)
    (saNet : PySem.W.findIn K (.ref CNet) "__setattr__" = some (some (.builtin "object.__setattr__")))
    (mkNet : PySem.W.makesIn K CNet = true)
    (kcNet : PySem.W.keepIn K (.ref CNet) = true)
    (nNet_size : PySem.W.findIn K (.ref CNet) "size" = some none)
    (nNet__ties : PySem.W.findIn K (.ref CNet) "_ties" = some none)
    (nNet__near : PySem.W.findIn K (.ref CNet) "_near" = some none)
    (q1Net : PySem.W.findIn K (.ref CNet) "__class__" = some (some (.builtin "object.__class__")))
    (q4Net : PySem.W.mroIn K CNet (.type "object") = some true)
    (zisinstance : PySem.W.nsIn K mainGlobals "isinstance" = some none)
    (zint : PySem.W.nsIn K mainGlobals "int" = some none)
    (zbool : PySem.W.nsIn K mainGlobals "bool" = some none)
    (ztuple : PySem.W.nsIn K mainGlobals "tuple" = some none)
    (zlist : PySem.W.nsIn K mainGlobals "list" = some none)
    (zstr : PySem.W.nsIn K mainGlobals "str" = some none)
    (zlen : PySem.W.nsIn K mainGlobals "len" = some none)
    (zset : PySem.W.nsIn K mainGlobals "set" = some none)
    (zdict : PySem.W.nsIn K mainGlobals "dict" = some none)
    (zsorted : PySem.W.nsIn K mainGlobals "sorted" = some none)
    (zrange : PySem.W.nsIn K mainGlobals "range" = some none)
    (zenumerate : PySem.W.nsIn K mainGlobals "enumerate" = some none)
    (zzip : PySem.W.nsIn K mainGlobals "zip" = some none)
    (zall : PySem.W.nsIn K mainGlobals "all" = some none)
    (zany : PySem.W.nsIn K mainGlobals "any" = some none)
    (zmin : PySem.W.nsIn K mainGlobals "min" = some none)
    (zmax : PySem.W.nsIn K mainGlobals "max" = some none)
    (zValueError : PySem.W.nsIn K mainGlobals "ValueError" = some none)
    (cMOST_PLACES : PySem.W.nsIn K mainGlobals "MOST_PLACES" = some (some (.int 40 tkMOST_PLACES)))
    (cFIGURES : PySem.W.nsIn K mainGlobals "FIGURES" = some (some (.str "0123456789" tkFIGURES)))
    (cMOST_FIGURES : PySem.W.nsIn K mainGlobals "MOST_FIGURES" = some (some (.int 2 tkMOST_FIGURES)))
    (a1 : PySem.W.nsIn K mainGlobals "is_number" = some (some (.ref f1)))
    (l1 : K.lookup f1 = some ⟨oc1, od1, .func (PySem.W.fnOf "is_number" "is_number" (defArgs S_is_number) (defBody S_is_number) (defScope S_is_number) .none kV1 dc1 pm1 an1 cd1 ct1), sl1⟩)
    (c1 : PySem.W.codeIn K cd1 "is_number" = true)
    (k1 : PySem.W.keepIn K (.ref f1) = true)
    (a2 : PySem.W.nsIn K mainGlobals "is_place" = some (some (.ref f2)))
    (l2 : K.lookup f2 = some ⟨oc2, od2, .func (PySem.W.fnOf "is_place" "is_place" (defArgs S_is_place) (defBody S_is_place) (defScope S_is_place) .none kV2 dc2 pm2 an2 cd2 ct2), sl2⟩)
    (c2 : PySem.W.codeIn K cd2 "is_place" = true)
    (k2 : PySem.W.keepIn K (.ref f2) = true)
    (a3 : PySem.W.nsIn K mainGlobals "is_tie" = some (some (.ref f3)))
    (l3 : K.lookup f3 = some ⟨oc3, od3, .func (PySem.W.fnOf "is_tie" "is_tie" (defArgs S_is_tie) (defBody S_is_tie) (defScope S_is_tie) .none kV3 dc3 pm3 an3 cd3 ct3), sl3⟩)
    (c3 : PySem.W.codeIn K cd3 "is_tie" = true)
    (k3 : PySem.W.keepIn K (.ref f3) = true)
    (a4 : PySem.W.nsIn K mainGlobals "rising_ties" = some (some (.ref f4)))
    (l4 : K.lookup f4 = some ⟨oc4, od4, .func (PySem.W.fnOf "rising_ties" "rising_ties" (defArgs S_rising_ties) (defBody S_rising_ties) (defScope S_rising_ties) .none kV4 dc4 pm4 an4 cd4 ct4), sl4⟩)
    (c4 : PySem.W.codeIn K cd4 "rising_ties" = true)
    (k4 : PySem.W.keepIn K (.ref f4) = true)
    (a5 : PySem.W.nsIn K mainGlobals "neighbours" = some (some (.ref f5)))
    (l5 : K.lookup f5 = some ⟨oc5, od5, .func (PySem.W.fnOf "neighbours" "neighbours" (defArgs S_neighbours) (defBody S_neighbours) (defScope S_neighbours) .none kV5 dc5 pm5 an5 cd5 ct5), sl5⟩)
    (c5 : PySem.W.codeIn K cd5 "neighbours" = true)
    (k5 : PySem.W.keepIn K (.ref f5) = true)
    (a6 : PySem.W.findIn K (.ref CNet) "__init__" = some (some (.ref f6)))
    (i6 : PySem.W.isFn K (.ref f6) = true)
    (l6 : K.lookup f6 = some ⟨oc6, od6, .func (PySem.W.fnOf "__init__" "Net.__init__" (defArgs S_Net___init__) (defBody S_Net___init__) (defScope S_Net___init__) .none kV6 dc6 pm6 an6 cd6 ct6), sl6⟩)
    (c6 : PySem.W.codeIn K cd6 "Net.__init__" = true)
    (k6 : PySem.W.keepIn K (.ref f6) = true)
    (a7 : PySem.W.findIn K (.ref CNet) "ties" = some (some (.ref f7)))
    (i7 : PySem.W.isFn K (.ref f7) = true)
    (l7 : K.lookup f7 = some ⟨oc7, od7, .func (PySem.W.fnOf "ties" "Net.ties" (defArgs S_Net_ties) (defBody S_Net_ties) (defScope S_Net_ties) .none kV7 dc7 pm7 an7 cd7 ct7), sl7⟩)
    (c7 : PySem.W.codeIn K cd7 "Net.ties" = true)
    (k7 : PySem.W.keepIn K (.ref f7) = true)
    (a8 : PySem.W.findIn K (.ref CNet) "beside" = some (some (.ref f8)))
    (i8 : PySem.W.isFn K (.ref f8) = true)
    (l8 : K.lookup f8 = some ⟨oc8, od8, .func (PySem.W.fnOf "beside" "Net.beside" (defArgs S_Net_beside) (defBody S_Net_beside) (defScope S_Net_beside) .none kV8 dc8 pm8 an8 cd8 ct8), sl8⟩)
    (c8 : PySem.W.codeIn K cd8 "Net.beside" = true)
    (k8 : PySem.W.keepIn K (.ref f8) = true)
    (a9 : PySem.W.nsIn K mainGlobals "reached" = some (some (.ref f9)))
    (l9 : K.lookup f9 = some ⟨oc9, od9, .func (PySem.W.fnOf "reached" "reached" (defArgs S_reached) (defBody S_reached) (defScope S_reached) .none kV9 dc9 pm9 an9 cd9 ct9), sl9⟩)
    (c9 : PySem.W.codeIn K cd9 "reached" = true)
    (k9 : PySem.W.keepIn K (.ref f9) = true)
    (a10 : PySem.W.nsIn K mainGlobals "parts" = some (some (.ref f10)))
    (l10 : K.lookup f10 = some ⟨oc10, od10, .func (PySem.W.fnOf "parts" "parts" (defArgs S_parts) (defBody S_parts) (defScope S_parts) .none kV10 dc10 pm10 an10 cd10 ct10), sl10⟩)
    (c10 : PySem.W.codeIn K cd10 "parts" = true)
    (k10 : PySem.W.keepIn K (.ref f10) = true)
    (a11 : PySem.W.nsIn K mainGlobals "shown" = some (some (.ref f11)))
    (l11 : K.lookup f11 = some ⟨oc11, od11, .func (PySem.W.fnOf "shown" "shown" (defArgs S_shown) (defBody S_shown) (defScope S_shown) .none kV11 dc11 pm11 an11 cd11 ct11), sl11⟩)
    (c11 : PySem.W.codeIn K cd11 "shown" = true)
    (k11 : PySem.W.keepIn K (.ref f11) = true)
    (a12 : PySem.W.nsIn K mainGlobals "number_in" = some (some (.ref f12)))
    (l12 : K.lookup f12 = some ⟨oc12, od12, .func (PySem.W.fnOf "number_in" "number_in" (defArgs S_number_in) (defBody S_number_in) (defScope S_number_in) .none kV12 dc12 pm12 an12 cd12 ct12), sl12⟩)
    (c12 : PySem.W.codeIn K cd12 "number_in" = true)
    (k12 : PySem.W.keepIn K (.ref f12) = true)
    (a13 : PySem.W.nsIn K mainGlobals "tie_in" = some (some (.ref f13)))
    (l13 : K.lookup f13 = some ⟨oc13, od13, .func (PySem.W.fnOf "tie_in" "tie_in" (defArgs S_tie_in) (defBody S_tie_in) (defScope S_tie_in) .none kV13 dc13 pm13 an13 cd13 ct13), sl13⟩)
    (c13 : PySem.W.codeIn K cd13 "tie_in" = true)
    (k13 : PySem.W.keepIn K (.ref f13) = true)
    (a14 : PySem.W.nsIn K mainGlobals "read" = some (some (.ref f14)))
    (l14 : K.lookup f14 = some ⟨oc14, od14, .func (PySem.W.fnOf "read" "read" (defArgs S_read) (defBody S_read) (defScope S_read) .none kV14 dc14 pm14 an14 cd14 ct14), sl14⟩)
    (c14 : PySem.W.codeIn K cd14 "read" = true)
    (k14 : PySem.W.keepIn K (.ref f14) = true)
    (a15 : PySem.W.nsIn K mainGlobals "checked" = some (some (.ref f15)))
    (l15 : K.lookup f15 = some ⟨oc15, od15, .func (PySem.W.fnOf "checked" "checked" (defArgs S_checked) (defBody S_checked) (defScope S_checked) .none kV15 dc15 pm15 an15 cd15 ct15), sl15⟩)
    (c15 : PySem.W.codeIn K cd15 "checked" = true)
    (k15 : PySem.W.keepIn K (.ref f15) = true)
    (a16 : PySem.W.nsIn K mainGlobals "mates_in" = some (some (.ref f16)))
    (l16 : K.lookup f16 = some ⟨oc16, od16, .func (PySem.W.fnOf "mates_in" "mates_in" (defArgs S_mates_in) (defBody S_mates_in) (defScope S_mates_in) .none kV16 dc16 pm16 an16 cd16 ct16), sl16⟩)
    (c16 : PySem.W.codeIn K cd16 "mates_in" = true)
    (k16 : PySem.W.keepIn K (.ref f16) = true)
    (a17 : PySem.W.nsIn K mainGlobals "are_places" = some (some (.ref f17)))
    (l17 : K.lookup f17 = some ⟨oc17, od17, .func (PySem.W.fnOf "are_places" "are_places" (defArgs S_are_places) (defBody S_are_places) (defScope S_are_places) .none kV17 dc17 pm17 an17 cd17 ct17), sl17⟩)
    (c17 : PySem.W.codeIn K cd17 "are_places" = true)
    (k17 : PySem.W.keepIn K (.ref f17) = true)
    (a18 : PySem.W.nsIn K mainGlobals "is_way" = some (some (.ref f18)))
    (l18 : K.lookup f18 = some ⟨oc18, od18, .func (PySem.W.fnOf "is_way" "is_way" (defArgs S_is_way) (defBody S_is_way) (defScope S_is_way) .none kV18 dc18 pm18 an18 cd18 ct18), sl18⟩)
    (c18 : PySem.W.codeIn K cd18 "is_way" = true)
    (k18 : PySem.W.keepIn K (.ref f18) = true)
    (a19 : PySem.W.nsIn K mainGlobals "turned" = some (some (.ref f19)))
    (l19 : K.lookup f19 = some ⟨oc19, od19, .func (PySem.W.fnOf "turned" "turned" (defArgs S_turned) (defBody S_turned) (defScope S_turned) .none kV19 dc19 pm19 an19 cd19 ct19), sl19⟩)
    (c19 : PySem.W.codeIn K cd19 "turned" = true)
    (k19 : PySem.W.keepIn K (.ref f19) = true)
    (a20 : PySem.W.nsIn K mainGlobals "roads_round" = some (some (.ref f20)))
    (l20 : K.lookup f20 = some ⟨oc20, od20, .func (PySem.W.fnOf "roads_round" "roads_round" (defArgs S_roads_round) (defBody S_roads_round) (defScope S_roads_round) .none kV20 dc20 pm20 an20 cd20 ct20), sl20⟩)
    (c20 : PySem.W.codeIn K cd20 "roads_round" = true)
    (k20 : PySem.W.keepIn K (.ref f20) = true)
    (a21 : PySem.W.nsIn K mainGlobals "roads_by" = some (some (.ref f21)))
    (l21 : K.lookup f21 = some ⟨oc21, od21, .func (PySem.W.fnOf "roads_by" "roads_by" (defArgs S_roads_by) (defBody S_roads_by) (defScope S_roads_by) .none kV21 dc21 pm21 an21 cd21 ct21), sl21⟩)
    (c21 : PySem.W.codeIn K cd21 "roads_by" = true)
    (k21 : PySem.W.keepIn K (.ref f21) = true)
    (a22 : PySem.W.nsIn K mainGlobals "way_from" = some (some (.ref f22)))
    (l22 : K.lookup f22 = some ⟨oc22, od22, .func (PySem.W.fnOf "way_from" "way_from" (defArgs S_way_from) (defBody S_way_from) (defScope S_way_from) .none kV22 dc22 pm22 an22 cd22 ct22), sl22⟩)
    (c22 : PySem.W.codeIn K cd22 "way_from" = true)
    (k22 : PySem.W.keepIn K (.ref f22) = true)
    (a23 : PySem.W.nsIn K mainGlobals "better" = some (some (.ref f23)))
    (l23 : K.lookup f23 = some ⟨oc23, od23, .func (PySem.W.fnOf "better" "better" (defArgs S_better) (defBody S_better) (defScope S_better) .none kV23 dc23 pm23 an23 cd23 ct23), sl23⟩)
    (c23 : PySem.W.codeIn K cd23 "better" = true)
    (k23 : PySem.W.keepIn K (.ref f23) = true)
    (a24 : PySem.W.nsIn K mainGlobals "most" = some (some (.ref f24)))
    (l24 : K.lookup f24 = some ⟨oc24, od24, .func (PySem.W.fnOf "most" "most" (defArgs S_most) (defBody S_most) (defScope S_most) .none kV24 dc24 pm24 an24 cd24 ct24), sl24⟩)
    (c24 : PySem.W.codeIn K cd24 "most" = true)
    (k24 : PySem.W.keepIn K (.ref f24) = true)
    (a25 : PySem.W.nsIn K mainGlobals "without" = some (some (.ref f25)))
    (l25 : K.lookup f25 = some ⟨oc25, od25, .func (PySem.W.fnOf "without" "without" (defArgs S_without) (defBody S_without) (defScope S_without) .none kV25 dc25 pm25 an25 cd25 ct25), sl25⟩)
    (c25 : PySem.W.codeIn K cd25 "without" = true)
    (k25 : PySem.W.keepIn K (.ref f25) = true)
    (a26 : PySem.W.nsIn K mainGlobals "freed" = some (some (.ref f26)))
    (l26 : K.lookup f26 = some ⟨oc26, od26, .func (PySem.W.fnOf "freed" "freed" (defArgs S_freed) (defBody S_freed) (defScope S_freed) .none kV26 dc26 pm26 an26 cd26 ct26), sl26⟩)
    (c26 : PySem.W.codeIn K cd26 "freed" = true)
    (k26 : PySem.W.keepIn K (.ref f26) = true)
    (a27 : PySem.W.nsIn K mainGlobals "is_beside_one" = some (some (.ref f27)))
    (l27 : K.lookup f27 = some ⟨oc27, od27, .func (PySem.W.fnOf "is_beside_one" "is_beside_one" (defArgs S_is_beside_one) (defBody S_is_beside_one) (defScope S_is_beside_one) .none kV27 dc27 pm27 an27 cd27 ct27), sl27⟩)
    (c27 : PySem.W.codeIn K cd27 "is_beside_one" = true)
    (k27 : PySem.W.keepIn K (.ref f27) = true)
    (a28 : PySem.W.nsIn K mainGlobals "fence" = some (some (.ref f28)))
    (l28 : K.lookup f28 = some ⟨oc28, od28, .func (PySem.W.fnOf "fence" "fence" (defArgs S_fence) (defBody S_fence) (defScope S_fence) .none kV28 dc28 pm28 an28 cd28 ct28), sl28⟩)
    (c28 : PySem.W.codeIn K cd28 "fence" = true)
    (k28 : PySem.W.keepIn K (.ref f28) = true)
    (a29 : PySem.W.nsIn K mainGlobals "_law_sole" = some (some (.ref f29)))
    (l29 : K.lookup f29 = some ⟨oc29, od29, .func (PySem.W.fnOf "_law_sole" "_law_sole" (defArgs S__law_sole) (defBody S__law_sole) (defScope S__law_sole) .none kV29 dc29 pm29 an29 cd29 ct29), sl29⟩)
    (c29 : PySem.W.codeIn K cd29 "_law_sole" = true)
    (k29 : PySem.W.keepIn K (.ref f29) = true)
    (a30 : PySem.W.nsIn K mainGlobals "_law_cell_at" = some (some (.ref f30)))
    (l30 : K.lookup f30 = some ⟨oc30, od30, .func (PySem.W.fnOf "_law_cell_at" "_law_cell_at" (defArgs S__law_cell_at) (defBody S__law_cell_at) (defScope S__law_cell_at) .none kV30 dc30 pm30 an30 cd30 ct30), sl30⟩)
    (c30 : PySem.W.codeIn K cd30 "_law_cell_at" = true)
    (k30 : PySem.W.keepIn K (.ref f30) = true)
    (a31 : PySem.W.nsIn K mainGlobals "_law_tied" = some (some (.ref f31)))
    (l31 : K.lookup f31 = some ⟨oc31, od31, .func (PySem.W.fnOf "_law_tied" "_law_tied" (defArgs S__law_tied) (defBody S__law_tied) (defScope S__law_tied) .none kV31 dc31 pm31 an31 cd31 ct31), sl31⟩)
    (c31 : PySem.W.codeIn K cd31 "_law_tied" = true)
    (k31 : PySem.W.keepIn K (.ref f31) = true)
    (a32 : PySem.W.nsIn K mainGlobals "_law_ties_by" = some (some (.ref f32)))
    (l32 : K.lookup f32 = some ⟨oc32, od32, .func (PySem.W.fnOf "_law_ties_by" "_law_ties_by" (defArgs S__law_ties_by) (defBody S__law_ties_by) (defScope S__law_ties_by) .none kV32 dc32 pm32 an32 cd32 ct32), sl32⟩)
    (c32 : PySem.W.codeIn K cd32 "_law_ties_by" = true)
    (k32 : PySem.W.keepIn K (.ref f32) = true)
    (a33 : PySem.W.nsIn K mainGlobals "_law_size_by" = some (some (.ref f33)))
    (l33 : K.lookup f33 = some ⟨oc33, od33, .func (PySem.W.fnOf "_law_size_by" "_law_size_by" (defArgs S__law_size_by) (defBody S__law_size_by) (defScope S__law_size_by) .none kV33 dc33 pm33 an33 cd33 ct33), sl33⟩)
    (c33 : PySem.W.codeIn K cd33 "_law_size_by" = true)
    (k33 : PySem.W.keepIn K (.ref f33) = true)
    (a34 : PySem.W.nsIn K mainGlobals "_law_kind_by" = some (some (.ref f34)))
    (l34 : K.lookup f34 = some ⟨oc34, od34, .func (PySem.W.fnOf "_law_kind_by" "_law_kind_by" (defArgs S__law_kind_by) (defBody S__law_kind_by) (defScope S__law_kind_by) .none kV34 dc34 pm34 an34 cd34 ct34), sl34⟩)
    (c34 : PySem.W.codeIn K cd34 "_law_kind_by" = true)
    (k34 : PySem.W.keepIn K (.ref f34) = true)
    (a35 : PySem.W.nsIn K mainGlobals "_law_great" = some (some (.ref f35)))
    (l35 : K.lookup f35 = some ⟨oc35, od35, .func (PySem.W.fnOf "_law_great" "_law_great" (defArgs S__law_great) (defBody S__law_great) (defScope S__law_great) .none kV35 dc35 pm35 an35 cd35 ct35), sl35⟩)
    (c35 : PySem.W.codeIn K cd35 "_law_great" = true)
    (k35 : PySem.W.keepIn K (.ref f35) = true)
    (a36 : PySem.W.nsIn K mainGlobals "_law_net_by" = some (some (.ref f36)))
    (l36 : K.lookup f36 = some ⟨oc36, od36, .func (PySem.W.fnOf "_law_net_by" "_law_net_by" (defArgs S__law_net_by) (defBody S__law_net_by) (defScope S__law_net_by) .none kV36 dc36 pm36 an36 cd36 ct36), sl36⟩)
    (c36 : PySem.W.codeIn K cd36 "_law_net_by" = true)
    (k36 : PySem.W.keepIn K (.ref f36) = true)
    (a37 : PySem.W.nsIn K mainGlobals "_law_figures" = some (some (.ref f37)))
    (l37 : K.lookup f37 = some ⟨oc37, od37, .func (PySem.W.fnOf "_law_figures" "_law_figures" (defArgs S__law_figures) (defBody S__law_figures) (defScope S__law_figures) .none kV37 dc37 pm37 an37 cd37 ct37), sl37⟩)
    (c37 : PySem.W.codeIn K cd37 "_law_figures" = true)
    (k37 : PySem.W.keepIn K (.ref f37) = true)
    (a38 : PySem.W.nsIn K mainGlobals "_law_text" = some (some (.ref f38)))
    (l38 : K.lookup f38 = some ⟨oc38, od38, .func (PySem.W.fnOf "_law_text" "_law_text" (defArgs S__law_text) (defBody S__law_text) (defScope S__law_text) .none kV38 dc38 pm38 an38 cd38 ct38), sl38⟩)
    (c38 : PySem.W.codeIn K cd38 "_law_text" = true)
    (k38 : PySem.W.keepIn K (.ref f38) = true)
    (a39 : PySem.W.nsIn K mainGlobals "_law_number" = some (some (.ref f39)))
    (l39 : K.lookup f39 = some ⟨oc39, od39, .func (PySem.W.fnOf "_law_number" "_law_number" (defArgs S__law_number) (defBody S__law_number) (defScope S__law_number) .none kV39 dc39 pm39 an39 cd39 ct39), sl39⟩)
    (c39 : PySem.W.codeIn K cd39 "_law_number" = true)
    (k39 : PySem.W.keepIn K (.ref f39) = true)
    (a40 : PySem.W.nsIn K mainGlobals "_law_tie" = some (some (.ref f40)))
    (l40 : K.lookup f40 = some ⟨oc40, od40, .func (PySem.W.fnOf "_law_tie" "_law_tie" (defArgs S__law_tie) (defBody S__law_tie) (defScope S__law_tie) .none kV40 dc40 pm40 an40 cd40 ct40), sl40⟩)
    (c40 : PySem.W.codeIn K cd40 "_law_tie" = true)
    (k40 : PySem.W.keepIn K (.ref f40) = true)
    (a41 : PySem.W.nsIn K mainGlobals "_law_net_of" = some (some (.ref f41)))
    (l41 : K.lookup f41 = some ⟨oc41, od41, .func (PySem.W.fnOf "_law_net_of" "_law_net_of" (defArgs S__law_net_of) (defBody S__law_net_of) (defScope S__law_net_of) .none kV41 dc41 pm41 an41 cd41 ct41), sl41⟩)
    (c41 : PySem.W.codeIn K cd41 "_law_net_of" = true)
    (k41 : PySem.W.keepIn K (.ref f41) = true)
    (a42 : PySem.W.nsIn K mainGlobals "_law_refused" = some (some (.ref f42)))
    (l42 : K.lookup f42 = some ⟨oc42, od42, .func (PySem.W.fnOf "_law_refused" "_law_refused" (defArgs S__law_refused) (defBody S__law_refused) (defScope S__law_refused) .none kV42 dc42 pm42 an42 cd42 ct42), sl42⟩)
    (c42 : PySem.W.codeIn K cd42 "_law_refused" = true)
    (k42 : PySem.W.keepIn K (.ref f42) = true)
    (a43 : PySem.W.nsIn K mainGlobals "_law_read_alike" = some (some (.ref f43)))
    (l43 : K.lookup f43 = some ⟨oc43, od43, .func (PySem.W.fnOf "_law_read_alike" "_law_read_alike" (defArgs S__law_read_alike) (defBody S__law_read_alike) (defScope S__law_read_alike) .none kV43 dc43 pm43 an43 cd43 ct43), sl43⟩)
    (c43 : PySem.W.codeIn K cd43 "_law_read_alike" = true)
    (k43 : PySem.W.keepIn K (.ref f43) = true)
    (a44 : PySem.W.nsIn K mainGlobals "_law_changed" = some (some (.ref f44)))
    (l44 : K.lookup f44 = some ⟨oc44, od44, .func (PySem.W.fnOf "_law_changed" "_law_changed" (defArgs S__law_changed) (defBody S__law_changed) (defScope S__law_changed) .none kV44 dc44 pm44 an44 cd44 ct44), sl44⟩)
    (c44 : PySem.W.codeIn K cd44 "_law_changed" = true)
    (k44 : PySem.W.keepIn K (.ref f44) = true)
    (a45 : PySem.W.nsIn K mainGlobals "law" = some (some (.ref f45)))
    (l45 : K.lookup f45 = some ⟨oc45, od45, .func (PySem.W.fnOf "law" "law" (defArgs S_law) (defBody S_law) (defScope S_law) .none kV45 dc45 pm45 an45 cd45 ct45), sl45⟩)
    (c45 : PySem.W.codeIn K cd45 "law" = true)
    (k45 : PySem.W.keepIn K (.ref f45) = true) :
    ∃ fd : FuncData, (∀ (s : Shared) (v : Value), BindsTo s fd ⟨[v], []⟩ [("_law_script", v)]) ∧ ∀ base : Heap, K.In base → base.Ns mainGlobals mg → FnOk l.prog w K mg base CX0 11 fa fd ["_law_script"] (spLaw K) := by
  have e := hfa.symm.trans (mg_of X G a45)
  cases e
  have F1 := fun_mk (st := S_is_number) l1 c1 k1
  have B1 := F1.binds (ps := ["thing"]) fun _ _ _ _ _ _ us hl => match us, hl with | [_], _ => rfl
  have F2 := fun_mk (st := S_is_place) l2 c2 k2
  have B2 := F2.binds (ps := ["thing", "size"]) fun _ _ _ _ _ _ us hl => match us, hl with | [_, _], _ => rfl
  have F3 := fun_mk (st := S_is_tie) l3 c3 k3
  have B3 := F3.binds (ps := ["thing", "size"]) fun _ _ _ _ _ _ us hl => match us, hl with | [_, _], _ => rfl
  have F4 := fun_mk (st := S_rising_ties) l4 c4 k4
  have B4 := F4.binds (ps := ["size", "ties"]) fun _ _ _ _ _ _ us hl => match us, hl with | [_, _], _ => rfl
  have F5 := fun_mk (st := S_neighbours) l5 c5 k5
  have B5 := F5.binds (ps := ["size", "ties"]) fun _ _ _ _ _ _ us hl => match us, hl with | [_, _], _ => rfl
  have F6 := fun_mk (st := S_Net___init__) l6 c6 k6
  have B6 := F6.binds (ps := ["self", "size", "ties"]) fun _ _ _ _ _ _ us hl => match us, hl with | [_, _, _], _ => rfl
  have F7 := fun_mk (st := S_Net_ties) l7 c7 k7
  have B7 := F7.binds (ps := ["self"]) fun _ _ _ _ _ _ us hl => match us, hl with | [_], _ => rfl
  have F8 := fun_mk (st := S_Net_beside) l8 c8 k8
  have B8 := F8.binds (ps := ["self", "place"]) fun _ _ _ _ _ _ us hl => match us, hl with | [_, _], _ => rfl
  have F9 := fun_mk (st := S_reached) l9 c9 k9
  have B9 := F9.binds (ps := ["net", "first", "closed"]) fun _ _ _ _ _ _ us hl => match us, hl with | [_, _, _], _ => rfl
  have F10 := fun_mk (st := S_parts) l10 c10 k10
  have B10 := F10.binds (ps := ["net", "taken"]) fun _ _ _ _ _ _ us hl => match us, hl with | [_, _], _ => rfl
  have F11 := fun_mk (st := S_shown) l11 c11 k11
  have B11 := F11.binds (ps := ["net"]) fun _ _ _ _ _ _ us hl => match us, hl with | [_], _ => rfl
  have F12 := fun_mk (st := S_number_in) l12 c12 k12
  have B12 := F12.binds (ps := ["word"]) fun _ _ _ _ _ _ us hl => match us, hl with | [_], _ => rfl
  have F13 := fun_mk (st := S_tie_in) l13 c13 k13
  have B13 := F13.binds (ps := ["word"]) fun _ _ _ _ _ _ us hl => match us, hl with | [_], _ => rfl
  have F14 := fun_mk (st := S_read) l14 c14 k14
  have B14 := F14.binds (ps := ["line"]) fun _ _ _ _ _ _ us hl => match us, hl with | [_], _ => rfl
  have F15 := fun_mk (st := S_checked) l15 c15 k15
  have B15 := F15.binds (ps := ["net", "pairs"]) fun _ _ _ _ _ _ us hl => match us, hl with | [_, _], _ => rfl
  have F16 := fun_mk (st := S_mates_in) l16 c16 k16
  have B16 := F16.binds (ps := ["net", "pairs"]) fun _ _ _ _ _ _ us hl => match us, hl with | [_, _], _ => rfl
  have F17 := fun_mk (st := S_are_places) l17 c17 k17
  have B17 := F17.binds (ps := ["net", "way"]) fun _ _ _ _ _ _ us hl => match us, hl with | [_, _], _ => rfl
  have F18 := fun_mk (st := S_is_way) l18 c18 k18
  have B18 := F18.binds (ps := ["net", "mates", "way"]) fun _ _ _ _ _ _ us hl => match us, hl with | [_, _, _], _ => rfl
  have F19 := fun_mk (st := S_turned) l19 c19 k19
  have B19 := F19.binds (ps := ["net", "pairs", "way"]) fun _ _ _ _ _ _ us hl => match us, hl with | [_, _, _], _ => rfl
  have F20 := fun_mk (st := S_roads_round) l20 c20 k20
  have B20 := F20.binds (ps := ["roads", "one", "other"]) fun _ _ _ _ _ _ us hl => match us, hl with | [_, _, _], _ => rfl
  have F21 := fun_mk (st := S_roads_by) l21 c21 k21
  have B21 := F21.binds (ps := ["roads", "mates", "here", "there"]) fun _ _ _ _ _ _ us hl => match us, hl with | [_, _, _, _], _ => rfl
  have F22 := fun_mk (st := S_way_from) l22 c22 k22
  have B22 := F22.binds (ps := ["net", "mates", "root"]) fun _ _ _ _ _ _ us hl => match us, hl with | [_, _, _], _ => rfl
  have F23 := fun_mk (st := S_better) l23 c23 k23
  have B23 := F23.binds (ps := ["net", "pairs"]) fun _ _ _ _ _ _ us hl => match us, hl with | [_, _], _ => rfl
  have F24 := fun_mk (st := S_most) l24 c24 k24
  have B24 := F24.binds (ps := ["net"]) fun _ _ _ _ _ _ us hl => match us, hl with | [_], _ => rfl
  have F25 := fun_mk (st := S_without) l25 c25 k25
  have B25 := F25.binds (ps := ["rows", "place"]) fun _ _ _ _ _ _ us hl => match us, hl with | [_, _], _ => rfl
  have F26 := fun_mk (st := S_freed) l26 c26 k26
  have B26 := F26.binds (ps := ["net", "pairs", "place"]) fun _ _ _ _ _ _ us hl => match us, hl with | [_, _, _], _ => rfl
  have F27 := fun_mk (st := S_is_beside_one) l27 c27 k27
  have B27 := F27.binds (ps := ["net", "place", "marked"]) fun _ _ _ _ _ _ us hl => match us, hl with | [_, _, _], _ => rfl
  have F28 := fun_mk (st := S_fence) l28 c28 k28
  have B28 := F28.binds (ps := ["net"]) fun _ _ _ _ _ _ us hl => match us, hl with | [_], _ => rfl
  have F29 := fun_mk (st := S__law_sole) l29 c29 k29
  have B29 := F29.binds (ps := ["_law_error"]) fun _ _ _ _ _ _ us hl => match us, hl with | [_], _ => rfl
  have F30 := fun_mk (st := S__law_cell_at) l30 c30 k30
  have B30 := F30.binds (ps := ["_law_script", "_law_k"]) fun _ _ _ _ _ _ us hl => match us, hl with | [_, _], _ => rfl
  have F31 := fun_mk (st := S__law_tied) l31 c31 k31
  have B31 := F31.binds (ps := ["_law_kind", "_law_cell", "_law_one", "_law_other", "_law_size"]) fun _ _ _ _ _ _ us hl => match us, hl with | [_, _, _, _, _], _ => rfl
  have F32 := fun_mk (st := S__law_ties_by) l32 c32 k32
  have B32 := F32.binds (ps := ["_law_script", "_law_size", "_law_kind"]) fun _ _ _ _ _ _ us hl => match us, hl with | [_, _, _], _ => rfl
  have F33 := fun_mk (st := S__law_size_by) l33 c33 k33
  have B33 := F33.binds (ps := ["_law_script", "_law_bound"]) fun _ _ _ _ _ _ us hl => match us, hl with | [_, _], _ => rfl
  have F34 := fun_mk (st := S__law_kind_by) l34 c34 k34
  have B34 := F34.binds (ps := ["_law_script"]) fun _ _ _ _ _ _ us hl => match us, hl with | [_], _ => rfl
  have F35 := fun_mk (st := S__law_great) l35 c35 k35
  have B35 := F35.binds (ps := ["_law_script"]) fun _ _ _ _ _ _ us hl => match us, hl with | [_], _ => rfl
  have F36 := fun_mk (st := S__law_net_by) l36 c36 k36
  have B36 := F36.binds (ps := ["_law_script", "_law_bound"]) fun _ _ _ _ _ _ us hl => match us, hl with | [_, _], _ => rfl
  have F37 := fun_mk (st := S__law_figures) l37 c37 k37
  have B37 := F37.binds (ps := ["_law_number_here"]) fun _ _ _ _ _ _ us hl => match us, hl with | [_], _ => rfl
  have F38 := fun_mk (st := S__law_text) l38 c38 k38
  have B38 := F38.binds (ps := ["_law_size", "_law_ties"]) fun _ _ _ _ _ _ us hl => match us, hl with | [_, _], _ => rfl
  have F39 := fun_mk (st := S__law_number) l39 c39 k39
  have B39 := F39.binds (ps := ["_law_word"]) fun _ _ _ _ _ _ us hl => match us, hl with | [_], _ => rfl
  have F40 := fun_mk (st := S__law_tie) l40 c40 k40
  have B40 := F40.binds (ps := ["_law_word", "_law_size"]) fun _ _ _ _ _ _ us hl => match us, hl with | [_, _], _ => rfl
  have F41 := fun_mk (st := S__law_net_of) l41 c41 k41
  have B41 := F41.binds (ps := ["_law_line"]) fun _ _ _ _ _ _ us hl => match us, hl with | [_], _ => rfl
  have F42 := fun_mk (st := S__law_refused) l42 c42 k42
  have B42 := F42.binds (ps := ["_law_line"]) fun _ _ _ _ _ _ us hl => match us, hl with | [_], _ => rfl
  have F43 := fun_mk (st := S__law_read_alike) l43 c43 k43
  have B43 := F43.binds (ps := ["_law_line"]) fun _ _ _ _ _ _ us hl => match us, hl with | [_], _ => rfl
  have F44 := fun_mk (st := S__law_changed) l44 c44 k44
  have B44 := F44.binds (ps := ["_law_line", "_law_cell", "_law_more"]) fun _ _ _ _ _ _ us hl => match us, hl with | [_, _, _], _ => rfl
  have F45 := fun_mk (st := S_law) l45 c45 k45
  have B45 := F45.binds (ps := ["_law_script"]) fun _ _ _ _ _ _ us hl => match us, hl with | [_], _ => rfl
  have T : Top K mg ⟨CNetError, CBadNet, CNoPlace, CBadPairs, CBadWay, CTieThere, CNoTie, COddRing, CNet⟩ := ⟨mg_none_of X G zisinstance,
    mg_none_of X G zint,
    mg_none_of X G zbool,
    mg_none_of X G ztuple,
    mg_none_of X G zlist,
    mg_none_of X G zstr,
    mg_none_of X G zlen,
    mg_none_of X G zset,
    mg_none_of X G zdict,
    mg_none_of X G zsorted,
    mg_none_of X G zrange,
    mg_none_of X G zenumerate,
    mg_none_of X G zzip,
    mg_none_of X G zall,
    mg_none_of X G zany,
    mg_none_of X G zmin,
    mg_none_of X G zmax,
    mg_none_of X G zValueError,
    ⟨mg_of X G gNetError, xNetError, pNetError, bNetError, tNetError, PySem.W.exm_ref bNetError hNetError tNetError sNetError⟩,
    ⟨mg_of X G gBadNet, xBadNet, pBadNet, bBadNet, tBadNet, PySem.W.exm_ref bBadNet hBadNet tBadNet sBadNet⟩,
    ⟨mg_of X G gNoPlace, xNoPlace, pNoPlace, bNoPlace, tNoPlace, PySem.W.exm_ref bNoPlace hNoPlace tNoPlace sNoPlace⟩,
    ⟨mg_of X G gBadPairs, xBadPairs, pBadPairs, bBadPairs, tBadPairs, PySem.W.exm_ref bBadPairs hBadPairs tBadPairs sBadPairs⟩,
    ⟨mg_of X G gBadWay, xBadWay, pBadWay, bBadWay, tBadWay, PySem.W.exm_ref bBadWay hBadWay tBadWay sBadWay⟩,
    ⟨mg_of X G gTieThere, xTieThere, pTieThere, bTieThere, tTieThere, PySem.W.exm_ref bTieThere hTieThere tTieThere sTieThere⟩,
    ⟨mg_of X G gNoTie, xNoTie, pNoTie, bNoTie, tNoTie, PySem.W.exm_ref bNoTie hNoTie tNoTie sNoTie⟩,
    ⟨mg_of X G gOddRing, xOddRing, pOddRing, bOddRing, tOddRing, PySem.W.exm_ref bOddRing hOddRing tOddRing sOddRing⟩,
    mg_of X G gNet,
    ⟨pgNet, hdNet, poNet, saNet⟩,
    nNet_size,
    nNet__ties,
    nNet__near,
    ⟨⟨e1BadNet, e2BadNet, bBadNet, hBadNet, e3BadNet, oG, oT, e4BadNet⟩, kit_val e5BadNet, kit_own iNetError tNetError e6BadNet sBadNet, true, false, false, false, false, false, false, kit_self, kit_own iNoPlace tNoPlace uBadNet_NoPlace sBadNet, kit_own iBadPairs tBadPairs uBadNet_BadPairs sBadNet, kit_own iBadWay tBadWay uBadNet_BadWay sBadNet, kit_own iTieThere tTieThere uBadNet_TieThere sBadNet, kit_own iNoTie tNoTie uBadNet_NoTie sBadNet, kit_own iOddRing tOddRing uBadNet_OddRing sBadNet, by decide⟩,
    ⟨⟨e1NoPlace, e2NoPlace, bNoPlace, hNoPlace, e3NoPlace, oG, oT, e4NoPlace⟩, kit_val e5NoPlace, kit_own iNetError tNetError e6NoPlace sNoPlace, false, true, false, false, false, false, false, kit_own iBadNet tBadNet uNoPlace_BadNet sNoPlace, kit_self, kit_own iBadPairs tBadPairs uNoPlace_BadPairs sNoPlace, kit_own iBadWay tBadWay uNoPlace_BadWay sNoPlace, kit_own iTieThere tTieThere uNoPlace_TieThere sNoPlace, kit_own iNoTie tNoTie uNoPlace_NoTie sNoPlace, kit_own iOddRing tOddRing uNoPlace_OddRing sNoPlace, by decide⟩,
    ⟨⟨e1BadPairs, e2BadPairs, bBadPairs, hBadPairs, e3BadPairs, oG, oT, e4BadPairs⟩, kit_val e5BadPairs, kit_own iNetError tNetError e6BadPairs sBadPairs, false, false, true, false, false, false, false, kit_own iBadNet tBadNet uBadPairs_BadNet sBadPairs, kit_own iNoPlace tNoPlace uBadPairs_NoPlace sBadPairs, kit_self, kit_own iBadWay tBadWay uBadPairs_BadWay sBadPairs, kit_own iTieThere tTieThere uBadPairs_TieThere sBadPairs, kit_own iNoTie tNoTie uBadPairs_NoTie sBadPairs, kit_own iOddRing tOddRing uBadPairs_OddRing sBadPairs, by decide⟩,
    ⟨⟨e1BadWay, e2BadWay, bBadWay, hBadWay, e3BadWay, oG, oT, e4BadWay⟩, kit_val e5BadWay, kit_own iNetError tNetError e6BadWay sBadWay, false, false, false, true, false, false, false, kit_own iBadNet tBadNet uBadWay_BadNet sBadWay, kit_own iNoPlace tNoPlace uBadWay_NoPlace sBadWay, kit_own iBadPairs tBadPairs uBadWay_BadPairs sBadWay, kit_self, kit_own iTieThere tTieThere uBadWay_TieThere sBadWay, kit_own iNoTie tNoTie uBadWay_NoTie sBadWay, kit_own iOddRing tOddRing uBadWay_OddRing sBadWay, by decide⟩,
    ⟨q1Net, oG, oT, q4Net⟩,
    ⟨_, mg_of X G cMOST_PLACES⟩,
    ⟨_, mg_of X G cFIGURES⟩,
    ⟨_, mg_of X G cMOST_FIGURES⟩,
    ⟨_, _, mg_of X G a1, F1, B1⟩,
    ⟨_, _, mg_of X G a2, F2, B2⟩,
    ⟨_, _, mg_of X G a3, F3, B3⟩,
    ⟨_, _, mg_of X G a4, F4, B4⟩,
    ⟨_, _, mg_of X G a5, F5, B5⟩,
    ⟨_, _, ⟨mkNet, a6, i6, kcNet⟩, F6, B6⟩,
    ⟨_, _, ⟨a7, i7, k7⟩, F7, B7⟩,
    ⟨_, _, ⟨a8, i8, k8⟩, F8, B8⟩,
    ⟨_, _, mg_of X G a9, F9, B9⟩,
    ⟨_, _, mg_of X G a10, F10, B10⟩,
    ⟨_, _, mg_of X G a11, F11, B11⟩,
    ⟨_, _, mg_of X G a12, F12, B12⟩,
    ⟨_, _, mg_of X G a13, F13, B13⟩,
    ⟨_, _, mg_of X G a14, F14, B14⟩,
    ⟨_, _, mg_of X G a15, F15, B15⟩,
    ⟨_, _, mg_of X G a16, F16, B16⟩,
    ⟨_, _, mg_of X G a17, F17, B17⟩,
    ⟨_, _, mg_of X G a18, F18, B18⟩,
    ⟨_, _, mg_of X G a19, F19, B19⟩,
    ⟨_, _, mg_of X G a20, F20, B20⟩,
    ⟨_, _, mg_of X G a21, F21, B21⟩,
    ⟨_, _, mg_of X G a22, F22, B22⟩,
    ⟨_, _, mg_of X G a23, F23, B23⟩,
    ⟨_, _, mg_of X G a24, F24, B24⟩,
    ⟨_, _, mg_of X G a25, F25, B25⟩,
    ⟨_, _, mg_of X G a26, F26, B26⟩,
    ⟨_, _, mg_of X G a27, F27, B27⟩,
    ⟨_, _, mg_of X G a28, F28, B28⟩,
    ⟨_, _, mg_of X G a29, F29, B29⟩,
    ⟨_, _, mg_of X G a30, F30, B30⟩,
    ⟨_, _, mg_of X G a31, F31, B31⟩,
    ⟨_, _, mg_of X G a32, F32, B32⟩,
    ⟨_, _, mg_of X G a33, F33, B33⟩,
    ⟨_, _, mg_of X G a34, F34, B34⟩,
    ⟨_, _, mg_of X G a35, F35, B35⟩,
    ⟨_, _, mg_of X G a36, F36, B36⟩,
    ⟨_, _, mg_of X G a37, F37, B37⟩,
    ⟨_, _, mg_of X G a38, F38, B38⟩,
    ⟨_, _, mg_of X G a39, F39, B39⟩,
    ⟨_, _, mg_of X G a40, F40, B40⟩,
    ⟨_, _, mg_of X G a41, F41, B41⟩,
    ⟨_, _, mg_of X G a42, F42, B42⟩,
    ⟨_, _, mg_of X G a43, F43, B43⟩,
    ⟨_, _, mg_of X G a44, F44, B44⟩,
    ⟨_, _, mg_of X G a45, F45, B45⟩⟩
  exact ⟨_, fun s v => .of_eq rfl, fun base _ _ => ok_law T F45⟩
theorem walk {l : PySem.W.OpenLaw} {q : Program} {loose : List Str} {XP : (Str → Option Value) → Heap → Prop} {YP : World → Heap → Prop} {d : DefRec} {K : Params → PySem.W.Frag} (hn : l.most = some 63) (hdf : d.params.defaults = [])
    (hY : ∀ (w : World) (h : Heap), YP w h → (K w.params).In h)
    (F : ∀ (w : World) (mg : Str → Option Value) (fa : Addr) (h : Heap), (K w.params).In h → h.Ns mainGlobals mg → mg d.name = some (.ref fa) →
      ∃ fd : FuncData, (∀ (s : Shared) (u : Value), BindsTo s fd ⟨[u], []⟩ [("_law_script", u)]) ∧ ∀ base : Heap, (K w.params).In base → base.Ns mainGlobals mg → FnOk l.prog w (K w.params) mg base CX0 11 fa fd ["_law_script"] (spLaw (K w.params))) :
    PySem.W.WalkO q loose XP YP l.row.toRowW d [] (fun f vs => PySem.call f vs) :=
  walk_of (n := 63) (k := 11) (x := "_law_script") (CX := fun _ => CX0) (sp := fun w => spLaw (K w.params)) hn (by decide) hdf ⟨rfl, by decide, by decide⟩ hY F (fun _ _ a ns hl _ hS => ⟨a, ns, rfl, hS, hl, fun _ => rfl⟩) fun _ _ _ _ _ z => z
end Od

open PySem PySem.W PyProof.Rows
set_option maxRecDepth 100000 in
set_option maxHeartbeats 0 in
theorem PySem.Challenge.cw_oddpairs_k12_texts_holds : PySem.Challenge.rw_oddpairs_k12_texts.Holds := by
  w_on; o_law; k_head; (case hw => w_witness2)
  k_fill
  refine Od.walk (l := PySem.Challenge.rw_oddpairs_k12_texts) rfl rfl (fun w h Y => PySem.W.kIn_of Y) ?F
  case F =>
    intro w mg fa h KX G hmg
    refine' Od.all_mk KX G hmg ?gNetError ?gBadNet ?gNoPlace ?gBadPairs ?gBadWay ?gTieThere ?gNoTie ?gOddRing ?gNet ?xNetError ?pNetError ?bNetError ?tNetError ?hNetError ?iNetError ?sNetError ?xBadNet ?pBadNet ?bBadNet ?tBadNet ?hBadNet ?iBadNet ?sBadNet ?xNoPlace ?pNoPlace ?bNoPlace ?tNoPlace ?hNoPlace ?iNoPlace ?sNoPlace ?xBadPairs ?pBadPairs ?bBadPairs ?tBadPairs ?hBadPairs ?iBadPairs ?sBadPairs ?xBadWay ?pBadWay ?bBadWay ?tBadWay ?hBadWay ?iBadWay ?sBadWay ?xTieThere ?pTieThere ?bTieThere ?tTieThere ?hTieThere ?iTieThere ?sTieThere ?xNoTie ?pNoTie ?bNoTie ?tNoTie ?hNoTie ?iNoTie ?sNoTie ?xOddRing ?pOddRing ?bOddRing ?tOddRing ?hOddRing ?iOddRing ?sOddRing ?oG ?oT ?e1BadNet ?e2BadNet ?e3BadNet ?e4BadNet ?e5BadNet ?e6BadNet ?uBadNet_NoPlace ?uBadNet_BadPairs ?uBadNet_BadWay ?uBadNet_TieThere ?uBadNet_NoTie ?uBadNet_OddRing ?e1NoPlace ?e2NoPlace ?e3NoPlace ?e4NoPlace ?e5NoPlace ?e6NoPlace ?uNoPlace_BadNet ?uNoPlace_BadPairs ?uNoPlace_BadWay ?uNoPlace_TieThere ?uNoPlace_NoTie ?uNoPlace_OddRing ?e1BadPairs ?e2BadPairs ?e3BadPairs ?e4BadPairs ?e5BadPairs ?e6BadPairs ?uBadPairs_BadNet ?uBadPairs_NoPlace ?uBadPairs_BadWay ?uBadPairs_TieThere ?uBadPairs_NoTie ?uBadPairs_OddRing ?e1BadWay ?e2BadWay ?e3BadWay ?e4BadWay ?e5BadWay ?e6BadWay ?uBadWay_BadNet ?uBadWay_NoPlace ?uBadWay_BadPairs ?uBadWay_TieThere ?uBadWay_NoTie ?uBadWay_OddRing ?pgNet ?hdNet ?poNet ?saNet ?mkNet ?kcNet ?nNet_size ?nNet__ties ?nNet__near ?q1Net ?q4Net ?zisinstance ?zint ?zbool ?ztuple ?zlist ?zstr ?zlen ?zset ?zdict ?zsorted ?zrange ?zenumerate ?zzip ?zall ?zany ?zmin ?zmax ?zValueError ?cMOST_PLACES ?cFIGURES ?cMOST_FIGURES ?a1 ?l1 ?c1 ?k1 ?a2 ?l2 ?c2 ?k2 ?a3 ?l3 ?c3 ?k3 ?a4 ?l4 ?c4 ?k4 ?a5 ?l5 ?c5 ?k5 ?a6 ?i6 ?l6 ?c6 ?k6 ?a7 ?i7 ?l7 ?c7 ?k7 ?a8 ?i8 ?l8 ?c8 ?k8 ?a9 ?l9 ?c9 ?k9 ?a10 ?l10 ?c10 ?k10 ?a11 ?l11 ?c11 ?k11 ?a12 ?l12 ?c12 ?k12 ?a13 ?l13 ?c13 ?k13 ?a14 ?l14 ?c14 ?k14 ?a15 ?l15 ?c15 ?k15 ?a16 ?l16 ?c16 ?k16 ?a17 ?l17 ?c17 ?k17 ?a18 ?l18 ?c18 ?k18 ?a19 ?l19 ?c19 ?k19 ?a20 ?l20 ?c20 ?k20 ?a21 ?l21 ?c21 ?k21 ?a22 ?l22 ?c22 ?k22 ?a23 ?l23 ?c23 ?k23 ?a24 ?l24 ?c24 ?k24 ?a25 ?l25 ?c25 ?k25 ?a26 ?l26 ?c26 ?k26 ?a27 ?l27 ?c27 ?k27 ?a28 ?l28 ?c28 ?k28 ?a29 ?l29 ?c29 ?k29 ?a30 ?l30 ?c30 ?k30 ?a31 ?l31 ?c31 ?k31 ?a32 ?l32 ?c32 ?k32 ?a33 ?l33 ?c33 ?k33 ?a34 ?l34 ?c34 ?k34 ?a35 ?l35 ?c35 ?k35 ?a36 ?l36 ?c36 ?k36 ?a37 ?l37 ?c37 ?k37 ?a38 ?l38 ?c38 ?k38 ?a39 ?l39 ?c39 ?k39 ?a40 ?l40 ?c40 ?k40 ?a41 ?l41 ?c41 ?k41 ?a42 ?l42 ?c42 ?k42 ?a43 ?l43 ?c43 ?k43 ?a44 ?l44 ?c44 ?k44 ?a45 ?l45 ?c45 ?k45
    (case gNetError => k_is)
    (case gBadNet => k_is)
    (case gNoPlace => k_is)
    (case gBadPairs => k_is)
    (case gBadWay => k_is)
    (case gTieThere => k_is)
    (case gNoTie => k_is)
    (case gOddRing => k_is)
    (case gNet => k_is)
    (case xNetError => k_exc)
    (case pNetError => k_is)
    (case bNetError => k_is)
    (case tNetError => k_is)
    (case hNetError => k_is)
    (case iNetError => k_is)
    (case sNetError => first | rfl | k_is)
    (case xBadNet => k_exc)
    (case pBadNet => k_is)
    (case bBadNet => k_is)
    (case tBadNet => k_is)
    (case hBadNet => k_is)
    (case iBadNet => k_is)
    (case sBadNet => first | rfl | k_is)
    (case xNoPlace => k_exc)
    (case pNoPlace => k_is)
    (case bNoPlace => k_is)
    (case tNoPlace => k_is)
    (case hNoPlace => k_is)
    (case iNoPlace => k_is)
    (case sNoPlace => first | rfl | k_is)
    (case xBadPairs => k_exc)
    (case pBadPairs => k_is)
    (case bBadPairs => k_is)
    (case tBadPairs => k_is)
    (case hBadPairs => k_is)
    (case iBadPairs => k_is)
    (case sBadPairs => first | rfl | k_is)
    (case xBadWay => k_exc)
    (case pBadWay => k_is)
    (case bBadWay => k_is)
    (case tBadWay => k_is)
    (case hBadWay => k_is)
    (case iBadWay => k_is)
    (case sBadWay => first | rfl | k_is)
    (case xTieThere => k_exc)
    (case pTieThere => k_is)
    (case bTieThere => k_is)
    (case tTieThere => k_is)
    (case hTieThere => k_is)
    (case iTieThere => k_is)
    (case sTieThere => first | rfl | k_is)
    (case xNoTie => k_exc)
    (case pNoTie => k_is)
    (case bNoTie => k_is)
    (case tNoTie => k_is)
    (case hNoTie => k_is)
    (case iNoTie => k_is)
    (case sNoTie => first | rfl | k_is)
    (case xOddRing => k_exc)
    (case pOddRing => k_is)
    (case bOddRing => k_is)
    (case tOddRing => k_is)
    (case hOddRing => k_is)
    (case iOddRing => k_is)
    (case sOddRing => first | rfl | k_is)
    (case oG => k_is)
    (case oT => k_is)
    (case e1BadNet => k_is)
    (case e2BadNet => k_is)
    (case e3BadNet => k_is)
    (case e4BadNet => k_is)
    (case e5BadNet => k_is)
    (case e6BadNet => k_is)
    (case uBadNet_NoPlace => k_is)
    (case uBadNet_BadPairs => k_is)
    (case uBadNet_BadWay => k_is)
    (case uBadNet_TieThere => k_is)
    (case uBadNet_NoTie => k_is)
    (case uBadNet_OddRing => k_is)
    (case e1NoPlace => k_is)
    (case e2NoPlace => k_is)
    (case e3NoPlace => k_is)
    (case e4NoPlace => k_is)
    (case e5NoPlace => k_is)
    (case e6NoPlace => k_is)
    (case uNoPlace_BadNet => k_is)
    (case uNoPlace_BadPairs => k_is)
    (case uNoPlace_BadWay => k_is)
    (case uNoPlace_TieThere => k_is)
    (case uNoPlace_NoTie => k_is)
    (case uNoPlace_OddRing => k_is)
    (case e1BadPairs => k_is)
    (case e2BadPairs => k_is)
    (case e3BadPairs => k_is)
    (case e4BadPairs => k_is)
    (case e5BadPairs => k_is)
    (case e6BadPairs => k_is)
    (case uBadPairs_BadNet => k_is)
    (case uBadPairs_NoPlace => k_is)
    (case uBadPairs_BadWay => k_is)
    (case uBadPairs_TieThere => k_is)
    (case uBadPairs_NoTie => k_is)
    (case uBadPairs_OddRing => k_is)
    (case e1BadWay => k_is)
    (case e2BadWay => k_is)
    (case e3BadWay => k_is)
    (case e4BadWay => k_is)
    (case e5BadWay => k_is)
    (case e6BadWay => k_is)
    (case uBadWay_BadNet => k_is)
    (case uBadWay_NoPlace => k_is)
    (case uBadWay_BadPairs => k_is)
    (case uBadWay_TieThere => k_is)
    (case uBadWay_NoTie => k_is)
    (case uBadWay_OddRing => k_is)
    (case pgNet => k_is)
    (case hdNet => k_is)
    (case poNet => k_is)
    (case saNet => k_is)
    (case mkNet => k_is)
    (case kcNet => k_is)
    (case nNet_size => k_is)
    (case nNet__ties => k_is)
    (case nNet__near => k_is)
    (case q1Net => k_is)
    (case q4Net => k_is)
    (case zisinstance => k_is)
    (case zint => k_is)
    (case zbool => k_is)
    (case ztuple => k_is)
    (case zlist => k_is)
    (case zstr => k_is)
    (case zlen => k_is)
    (case zset => k_is)
    (case zdict => k_is)
    (case zsorted => k_is)
    (case zrange => k_is)
    (case zenumerate => k_is)
    (case zzip => k_is)
    (case zall => k_is)
    (case zany => k_is)
    (case zmin => k_is)
    (case zmax => k_is)
    (case zValueError => k_is)
    (case cMOST_PLACES => k_is)
    (case cFIGURES => k_is)
    (case cMOST_FIGURES => k_is)
    (case a1 => k_is)
    (case l1 => k_is)
    (case c1 => k_is)
    (case k1 => k_is)
    (case a2 => k_is)
    (case l2 => k_is)
    (case c2 => k_is)
    (case k2 => k_is)
    (case a3 => k_is)
    (case l3 => k_is)
    (case c3 => k_is)
    (case k3 => k_is)
    (case a4 => k_is)
    (case l4 => k_is)
    (case c4 => k_is)
    (case k4 => k_is)
    (case a5 => k_is)
    (case l5 => k_is)
    (case c5 => k_is)
    (case k5 => k_is)
    (case a6 => k_is)
    (case i6 => k_is)
    (case l6 => k_is)
    (case c6 => k_is)
    (case k6 => k_is)
    (case a7 => k_is)
    (case i7 => k_is)
    (case l7 => k_is)
    (case c7 => k_is)
    (case k7 => k_is)
    (case a8 => k_is)
    (case i8 => k_is)
    (case l8 => k_is)
    (case c8 => k_is)
    (case k8 => k_is)
    (case a9 => k_is)
    (case l9 => k_is)
    (case c9 => k_is)
    (case k9 => k_is)
    (case a10 => k_is)
    (case l10 => k_is)
    (case c10 => k_is)
    (case k10 => k_is)
    (case a11 => k_is)
    (case l11 => k_is)
    (case c11 => k_is)
    (case k11 => k_is)
    (case a12 => k_is)
    (case l12 => k_is)
    (case c12 => k_is)
    (case k12 => k_is)
    (case a13 => k_is)
    (case l13 => k_is)
    (case c13 => k_is)
    (case k13 => k_is)
    (case a14 => k_is)
    (case l14 => k_is)
    (case c14 => k_is)
    (case k14 => k_is)
    (case a15 => k_is)
    (case l15 => k_is)
    (case c15 => k_is)
    (case k15 => k_is)
    (case a16 => k_is)
    (case l16 => k_is)
    (case c16 => k_is)
    (case k16 => k_is)
    (case a17 => k_is)
    (case l17 => k_is)
    (case c17 => k_is)
    (case k17 => k_is)
    (case a18 => k_is)
    (case l18 => k_is)
    (case c18 => k_is)
    (case k18 => k_is)
    (case a19 => k_is)
    (case l19 => k_is)
    (case c19 => k_is)
    (case k19 => k_is)
    (case a20 => k_is)
    (case l20 => k_is)
    (case c20 => k_is)
    (case k20 => k_is)
    (case a21 => k_is)
    (case l21 => k_is)
    (case c21 => k_is)
    (case k21 => k_is)
    (case a22 => k_is)
    (case l22 => k_is)
    (case c22 => k_is)
    (case k22 => k_is)
    (case a23 => k_is)
    (case l23 => k_is)
    (case c23 => k_is)
    (case k23 => k_is)
    (case a24 => k_is)
    (case l24 => k_is)
    (case c24 => k_is)
    (case k24 => k_is)
    (case a25 => k_is)
    (case l25 => k_is)
    (case c25 => k_is)
    (case k25 => k_is)
    (case a26 => k_is)
    (case l26 => k_is)
    (case c26 => k_is)
    (case k26 => k_is)
    (case a27 => k_is)
    (case l27 => k_is)
    (case c27 => k_is)
    (case k27 => k_is)
    (case a28 => k_is)
    (case l28 => k_is)
    (case c28 => k_is)
    (case k28 => k_is)
    (case a29 => k_is)
    (case l29 => k_is)
    (case c29 => k_is)
    (case k29 => k_is)
    (case a30 => k_is)
    (case l30 => k_is)
    (case c30 => k_is)
    (case k30 => k_is)
    (case a31 => k_is)
    (case l31 => k_is)
    (case c31 => k_is)
    (case k31 => k_is)
    (case a32 => k_is)
    (case l32 => k_is)
    (case c32 => k_is)
    (case k32 => k_is)
    (case a33 => k_is)
    (case l33 => k_is)
    (case c33 => k_is)
    (case k33 => k_is)
    (case a34 => k_is)
    (case l34 => k_is)
    (case c34 => k_is)
    (case k34 => k_is)
    (case a35 => k_is)
    (case l35 => k_is)
    (case c35 => k_is)
    (case k35 => k_is)
    (case a36 => k_is)
    (case l36 => k_is)
    (case c36 => k_is)
    (case k36 => k_is)
    (case a37 => k_is)
    (case l37 => k_is)
    (case c37 => k_is)
    (case k37 => k_is)
    (case a38 => k_is)
    (case l38 => k_is)
    (case c38 => k_is)
    (case k38 => k_is)
    (case a39 => k_is)
    (case l39 => k_is)
    (case c39 => k_is)
    (case k39 => k_is)
    (case a40 => k_is)
    (case l40 => k_is)
    (case c40 => k_is)
    (case k40 => k_is)
    (case a41 => k_is)
    (case l41 => k_is)
    (case c41 => k_is)
    (case k41 => k_is)
    (case a42 => k_is)
    (case l42 => k_is)
    (case c42 => k_is)
    (case k42 => k_is)
    (case a43 => k_is)
    (case l43 => k_is)
    (case c43 => k_is)
    (case k43 => k_is)
    (case a44 => k_is)
    (case l44 => k_is)
    (case c44 => k_is)
    (case k44 => k_is)
    (case a45 => k_is)
    (case l45 => k_is)
    (case c45 => k_is)
    (case k45 => k_is)
