/-
  Plain facts for the laws of layer 18: a datagram is there and back; its checksum is never nought; addresses turned round; a bit turned.
-/
import Derived.Test.YtcaafinjphionaaDoorUdN
import Derived.Test.YtcaafinjphionaaDoorSmC
import Derived.Test.YtcaafinjphionaaDoorPutG
set_option maxRecDepth 4000
set_option linter.unusedVariables false
set_option linter.unusedSimpArgs false
namespace Go.Proofs.YtcaafinjphionaaDoor
open Go.RowKit

/-! ### What two bytes in a text's even place do to what it adds up to -/
theorem sumV_two {xs : List Int} {m : Nat} (x y : Int) (h : 2 * m + 2 ≤ xs.length) : pairsV (putTwo xs (2 * m) x y) = pairsV (putTwo xs (2 * m) 0 0) + (x * 256 + y) := by
  unfold pairsV
  rw [putTwo_len _ _ h, putTwo_len _ _ h, putTwo_pairsTo x y h, if_pos (by omega)]
theorem putTwo_same {xs : List Int} {k : Nat} (h : k + 2 ≤ xs.length) : putTwo xs k (xs.getD k 0) (xs.getD (k + 1) 0) = xs := by
  apply List.ext_getElem?
  intro i
  by_cases hi : i < xs.length
  · have l1 : i < (putTwo xs k (xs.getD k 0) (xs.getD (k + 1) 0)).length := by rw [putTwo_len _ _ h]; exact hi
    have e := putTwo_get (xs.getD k 0) (xs.getD (k + 1) 0) h i
    rw [List.getD_eq_getElem?_getD, List.getD_eq_getElem?_getD (l := xs) (i := i), List.getElem?_eq_getElem l1, List.getElem?_eq_getElem hi] at e
    rw [List.getElem?_eq_getElem l1, List.getElem?_eq_getElem hi]
    simp only [Option.getD_some] at e
    rw [e]
    by_cases e1 : i = k
    · subst e1; rw [if_pos rfl, List.getD_eq_getElem?_getD, List.getElem?_eq_getElem hi]; rfl
    · by_cases e2 : i = k + 1
      · subst e2; rw [if_neg e1, if_pos rfl, List.getD_eq_getElem?_getD, List.getElem?_eq_getElem hi]; rfl
      · rw [if_neg e1, if_neg e2]
  · rw [List.getElem?_eq_none (by rw [putTwo_len _ _ h]; omega), List.getElem?_eq_none (by omega)]
theorem putTwo_right {a b : List Int} {k : Nat} (x y : Int) : putTwo (a ++ b) (a.length + k) x y = a ++ putTwo b k x y := by
  unfold putTwo lay
  simp only [List.length_cons, List.length_nil, List.append_assoc, List.take_append, List.drop_append]
  rw [List.take_of_length_le (by omega), List.drop_eq_nil_of_le (by omega), show a.length + k - a.length = k by omega, show a.length + k + 2 - a.length = k + 2 by omega, List.nil_append]
/-- One byte of another value: what the text adds up to differs by that, once or 256 times. -/
theorem pairsV_set (xs : List Int) (i : Nat) (v : Int) (h : i < xs.length) : pairsV (xs.set i v) = pairsV xs + (if i % 2 = 0 then 256 * (v - xs.getD i 0) else v - xs.getD i 0) := by
  have hs : ∀ j, (xs.set i v).getD j 0 = if j = i then v else xs.getD j 0 := fun j => by
    rw [List.getD_eq_getElem?_getD, List.getElem?_set]
    by_cases e : i = j
    · subst e; rw [if_pos rfl, if_pos rfl, if_pos h]; rfl
    · rw [if_neg e, if_neg (Ne.symm e), List.getD_eq_getElem?_getD]
  have hp : ∀ k, pairsTo (xs.set i v) k = pairsTo xs k + (if i / 2 < k then (if i % 2 = 0 then 256 * (v - xs.getD i 0) else v - xs.getD i 0) else 0) := fun k => by
    induction k with
    | zero => simp [pairsTo]
    | succ k ih =>
      simp only [pairsTo]
      rw [ih]
      unfold pairV
      rw [hs, hs]
      by_cases e1 : 2 * k = i
      · subst e1
        (repeat' split) <;> omega
      · by_cases e2 : 2 * k + 1 = i
        · subst e2
          (repeat' split) <;> omega
        · (repeat' split) <;> omega
  unfold pairsV
  rw [List.length_set, hp, if_pos (by omega)]
/-- A text that adds up right doesn't any more when one byte is another one (but for nought and 255, which no single bit turns into another). -/
theorem sumV_turned {xs : List Int} {i : Nat} {v : Int} (ok : AreBytes (xs.set i v)) (h : i < xs.length) (h0 : v - xs.getD i 0 ≠ 0) (h1 : v - xs.getD i 0 < 255) (h2 : -255 < v - xs.getD i 0) (hs : sumV xs = 0) : sumV (xs.set i v) ≠ 0 := by
  have hp := pairsV_set xs i v h
  have hn := (pairsTo_lt ok (((xs.set i v).length + 1) / 2)).1
  change 0 ≤ pairsV (xs.set i v) at hn
  unfold sumV at hs ⊢
  rw [hp] at hn ⊢
  generalize pairsV xs = P at *
  generalize v - xs.getD i 0 = d at *
  unfold foldV at hs ⊢
  by_cases e : i % 2 = 0
  · rw [if_pos e] at hn ⊢
    split at hs <;> split <;> omega
  · rw [if_neg e] at hn ⊢
    split at hs <;> split <;> omega

theorem AreBytes.setAt {xs : List Int} (h : AreBytes xs) (k : Nat) {y : Int} (hy : 0 ≤ y ∧ y < 256) : AreBytes (xs.set k y) := fun z hz => by
  rcases List.mem_or_eq_of_mem_set hz with h1 | h1
  · exact h z h1
  · subst h1; exact hy

/-! ### There and back -/
theorem rawU_list (u : UD) (hs : 0 ≤ u.s ∧ u.s ≤ 65535) (hd : 0 ≤ u.d ∧ u.d ≤ 65535) (hx : u.x.length ≤ 65507) : rawU u = u.s / 256 :: u.s % 256 :: u.d / 256 :: u.d % 256 :: ((ulN u : Nat) : Int) / 256 :: ((ulN u : Nat) : Int) % 256 :: 0 :: 0 :: u.x := by
  unfold rawU
  rw [put_two _ hs.1 hs.2, put_two _ hd.1 hd.2, put_two _ (by omega) (by unfold ulN; omega)]
  rfl
theorem putU_list {u : UD} (h : okU u = true) (src dst : Int) : putU u src dst = u.s / 256 :: u.s % 256 :: u.d / 256 :: u.d % 256 :: ((ulN u : Nat) : Int) / 256 :: ((ulN u : Nat) : Int) % 256 :: (ckU u src dst / 256) :: (ckU u src dst % 256) :: u.x := by
  obtain ⟨h1, h2, h3⟩ := okU_spec h
  unfold putU
  rw [rawU_list u h1 h2 h3]
  rfl
theorem ckU_pos (u : UD) (src dst : Int) : 1 ≤ ckU u src dst := by
  have := sumV_lt (psU src dst (ulN u) ++ rawU u)
  unfold ckU csU
  split <;> omega
/-- With the checksum in its place all adds up. -/
theorem putU_sum {u : UD} (hx : AreBytes u.x) (src dst : Int) : sumV (psU src dst (ulN u) ++ putU u src dst) = 0 := by
  have hl : (psU src dst (ulN u)).length = 12 := psU_len ..
  have hr := rawU_len u
  have hz : putTwo (rawU u) 6 0 0 = rawU u := by
    have e6 : (rawU u).getD 6 0 = 0 := by
      unfold rawU
      simp only [List.getD_eq_getElem?_getD]
      rw [List.getElem?_append_left (by simp only [List.length_append, putB_len, List.length_cons, List.length_nil]; omega), List.getElem?_append_right (by simp only [List.length_append, putB_len]; omega)]
      simp only [List.length_append, putB_len]
      rfl
    have e7 : (rawU u).getD 7 0 = 0 := by
      unfold rawU
      simp only [List.getD_eq_getElem?_getD]
      rw [List.getElem?_append_left (by simp only [List.length_append, putB_len, List.length_cons, List.length_nil]; omega), List.getElem?_append_right (by simp only [List.length_append, putB_len]; omega)]
      simp only [List.length_append, putB_len]
      rfl
    have := putTwo_same (xs := rawU u) (k := 6) (by rw [hr]; unfold ulN; omega)
    rw [e6, show 6 + 1 = 7 from rfl, e7] at this
    exact this
  have hn := (pairsTo_lt ((psU_ok src dst (ulN u)).append (rawU_ok hx)) (((psU src dst (ulN u) ++ rawU u).length + 1) / 2)).1
  change 0 ≤ pairsV (psU src dst (ulN u) ++ rawU u) at hn
  have hlen : 2 * 9 + 2 ≤ (psU src dst (ulN u) ++ rawU u).length := by rw [List.length_append, hl, hr]; unfold ulN; omega
  have e0 := sumV_two (xs := psU src dst (ulN u) ++ rawU u) (m := 9) (ckU u src dst / 256) (ckU u src dst % 256) hlen
  have p : ∀ x y : Int, putTwo (psU src dst (ulN u) ++ rawU u) (2 * 9) x y = psU src dst (ulN u) ++ putTwo (rawU u) 6 x y := fun x y => by
    have := putTwo_right (a := psU src dst (ulN u)) (b := rawU u) (k := 6) x y
    rw [hl] at this
    exact this
  rw [p, p, hz] at e0
  change pairsV (psU src dst (ulN u) ++ putU u src dst) = _ at e0
  unfold sumV
  rw [e0]
  have hc : ckU u src dst = if 65535 - foldV (pairsV (psU src dst (ulN u) ++ rawU u)) = 0 then 65535 else 65535 - foldV (pairsV (psU src dst (ulN u) ++ rawU u)) := rfl
  rw [hc]
  generalize pairsV (psU src dst (ulN u) ++ rawU u) = P at *
  unfold foldV
  split <;> split <;> split <;> omega
theorem nU_put {u : UD} (h : okU u = true) (src dst : Int) (ms : List Int) : nU (putU u src dst ++ ms) = ulN u := by
  obtain ⟨h1, h2, h3⟩ := okU_spec h
  have hu : ulN u = 8 + u.x.length := rfl
  unfold nU
  rw [putU_list h]
  rw [show cutL ((u.s / 256 :: u.s % 256 :: u.d / 256 :: u.d % 256 :: ((ulN u : Nat) : Int) / 256 :: ((ulN u : Nat) : Int) % 256 :: (ckU u src dst / 256) :: (ckU u src dst % 256) :: u.x) ++ ms) 4 6 = [((ulN u : Nat) : Int) / 256, ((ulN u : Nat) : Int) % 256] from rfl, getV_two]
  omega
theorem summed_put {u : UD} (h : okU u = true) (src dst : Int) : summedU (putU u src dst) = true := by
  have hp := ckU_pos u src dst
  have hq := ckU_lt u src dst
  unfold summedU
  rw [putU_list h]
  show (ckU u src dst / 256 != 0 || ckU u src dst % 256 != 0) = true
  generalize ckU u src dst = c at *
  simp only [Bool.or_eq_true, bne_iff_ne]
  omega
theorem get_put18 {u : UD} (h : okU u = true) (hx : AreBytes u.x) (src dst : Int) (ms : List Int) : getUE (putU u src dst ++ ms) src dst = 0 ∧ getU (putU u src dst ++ ms) src dst = u := by
  obtain ⟨h1, h2, h3⟩ := okU_spec h
  have hn := nU_put h src dst ms
  have hl := putU_len u src dst
  have hu : ulN u = 8 + u.x.length := rfl
  have hc0 : cutL (putU u src dst ++ ms) 0 (ulN u) = putU u src dst := by rw [cutL_left _ _ _ _ (by omega), cutL_whole hl]
  have he : getUE (putU u src dst ++ ms) src dst = 0 := by
    unfold getUE
    rw [hn, hc0, List.length_append, hl, putU_sum hx]
    rw [if_neg (by omega), if_neg (by omega), if_neg (by omega), if_neg (fun hh => hh.2 rfl)]
  refine ⟨he, ?_⟩
  unfold getU
  rw [if_pos he]
  unfold udOf
  rw [hn, cutL_left _ _ 8 _ (by omega)]
  rw [putU_list h]
  rw [show cutL ((u.s / 256 :: u.s % 256 :: u.d / 256 :: u.d % 256 :: ((ulN u : Nat) : Int) / 256 :: ((ulN u : Nat) : Int) % 256 :: (ckU u src dst / 256) :: (ckU u src dst % 256) :: u.x) ++ ms) 0 2 = [u.s / 256, u.s % 256] from rfl,
    show cutL ((u.s / 256 :: u.s % 256 :: u.d / 256 :: u.d % 256 :: ((ulN u : Nat) : Int) / 256 :: ((ulN u : Nat) : Int) % 256 :: (ckU u src dst / 256) :: (ckU u src dst % 256) :: u.x) ++ ms) 2 4 = [u.d / 256, u.d % 256] from rfl,
    show cutL (u.s / 256 :: u.s % 256 :: u.d / 256 :: u.d % 256 :: ((ulN u : Nat) : Int) / 256 :: ((ulN u : Nat) : Int) % 256 :: (ckU u src dst / 256) :: (ckU u src dst % 256) :: u.x) 8 (ulN u) = cutL u.x 0 (ulN u - 8) from rfl,
    getV_two, getV_two, cutL_whole (by omega)]
  cases u
  simp only [UD.mk.injEq, and_true]
  simp only at h1 h2
  omega

/-! ### Addresses turned round -/
theorem psU_turned (src dst : Int) (n : Nat) (b : List Int) : sumV (psU dst src n ++ b) = sumV (psU src dst n ++ b) := by
  have e : pairsV (psU dst src n) = pairsV (psU src dst n) := by
    unfold psU pseudoV
    simp only [List.append_assoc]
    generalize [(0 : Int), 17 % 256] ++ putL ((n : Int) % 18446744073709551616) 2 true = R
    rw [pairsV_append (a := putL dst 4 true) (by rw [putB_len]), pairsV_append (a := putL src 4 true) (b := R) (by rw [putB_len]), pairsV_append (a := putL src 4 true) (b := putL dst 4 true ++ R) (by rw [putB_len]), pairsV_append (a := putL dst 4 true) (b := R) (by rw [putB_len])]
    omega
  unfold sumV
  rw [pairsV_append (by rw [psU_len]), pairsV_append (by rw [psU_len]), e]
theorem getUE_turned (b : List Int) (src dst : Int) : getUE b dst src = getUE b src dst := by
  unfold getUE
  rw [psU_turned]

theorem putU_data {u : UD} (h : okU u = true) (src dst : Int) (k : Nat) : (putU u src dst).getD (8 + k) 0 = u.x.getD k 0 := by
  rw [putU_list h, show 8 + k = k + 1 + 1 + 1 + 1 + 1 + 1 + 1 + 1 by omega]
  rfl
/-! ### A bit turned -/
theorem getUE_bit {u : UD} (h : okU u = true) (hx : AreBytes u.x) (src dst : Int) {k : Nat} (hk : k < u.x.length) {v : Int} (hv : 0 ≤ v ∧ v < 256) (h0 : v - u.x.getD k 0 ≠ 0) (h1 : v - u.x.getD k 0 < 255) (h2 : -255 < v - u.x.getD k 0) : getUE ((putU u src dst).set (8 + k) v) src dst = 162 := by
  have hl := putU_len u src dst
  have hu : ulN u = 8 + u.x.length := rfl
  have hn : nU ((putU u src dst).set (8 + k) v) = ulN u := by
    have := nU_put h src dst []
    rw [List.append_nil] at this
    rw [← this]
    unfold nU
    rw [putU_list h, show 8 + k = k + 1 + 1 + 1 + 1 + 1 + 1 + 1 + 1 by omega]
    rfl
  have hsm : summedU ((putU u src dst).set (8 + k) v) = true := by
    rw [← summed_put h src dst]
    unfold summedU
    rw [putU_list h, show 8 + k = k + 1 + 1 + 1 + 1 + 1 + 1 + 1 + 1 by omega]
    rfl
  have hg : (putU u src dst).getD (8 + k) 0 = u.x.getD k 0 := by
    rw [putU_list h, show 8 + k = k + 1 + 1 + 1 + 1 + 1 + 1 + 1 + 1 by omega]
    rfl
  have hs := putU_sum hx src dst
  have hpl : (psU src dst (ulN u)).length = 12 := psU_len ..
  have e : psU src dst (ulN u) ++ (putU u src dst).set (8 + k) v = (psU src dst (ulN u) ++ putU u src dst).set (20 + k) v := by
    rw [List.set_append_right _ _ (by omega), hpl, show 20 + k - 12 = 8 + k by omega]
  have hgg : (psU src dst (ulN u) ++ putU u src dst).getD (20 + k) 0 = u.x.getD k 0 := by
    rw [List.getD_eq_getElem?_getD, List.getElem?_append_right (by omega), hpl, show 20 + k - 12 = 8 + k by omega, ← List.getD_eq_getElem?_getD, hg]
  have hne : sumV (psU src dst (ulN u) ++ (putU u src dst).set (8 + k) v) ≠ 0 := by
    rw [e]
    refine sumV_turned ?_ (by rw [List.length_append, hpl, hl]; omega) ?_ ?_ ?_ hs
    · rw [← e]
      exact (psU_ok _ _ _).append (AreBytes.setAt (putU_ok hx src dst) (8 + k) (y := v) (by omega))
    · rw [hgg]; exact h0
    · rw [hgg]; exact h1
    · rw [hgg]; exact h2
  have hc : cutL ((putU u src dst).set (8 + k) v) 0 (ulN u) = (putU u src dst).set (8 + k) v := cutL_whole (by rw [List.length_set, hl])
  unfold getUE
  rw [hn, hc, List.length_set, hl, hsm]
  rw [if_neg (by omega), if_neg (by omega), if_neg (by omega), if_pos ⟨rfl, hne⟩]
/-- Which bit is turned. -/
theorem turned_at (bit : Int) (n : Nat) (h0 : 0 < n) (h1 : n ≤ 3000) : ∃ k : Nat, wrap64 ((IntKind.u64.wrap bit).tmod (8 * (n : Int))) = (k : Int) ∧ k < 8 * n := by
  have hb : 0 ≤ IntKind.u64.wrap bit ∧ IntKind.u64.wrap bit < 18446744073709551616 := by rw [wrap_u64]; omega
  rw [Int.tmod_eq_emod_of_nonneg hb.1]
  have m0 := Int.emod_nonneg (IntKind.u64.wrap bit) (show (8 * (n : Int)) ≠ 0 by omega)
  have m1 := Int.emod_lt_of_pos (IntKind.u64.wrap bit) (show 0 < 8 * (n : Int) by omega)
  generalize (IntKind.u64.wrap bit) % (8 * (n : Int)) = m at *
  exact ⟨m.toNat, by rw [IntWalk.wrap64_in _ (by omega)]; omega, by omega⟩
/-- What turning one bit of a byte does to its number. -/
theorem bit_turned : ∀ b : Fin 256, ∀ j : Fin 8, 0 ≤ bits .xor .u8 ((b.val : Nat) : Int) (2 ^ j.val % 256) ∧ bits .xor .u8 ((b.val : Nat) : Int) (2 ^ j.val % 256) < 256 ∧ bits .xor .u8 ((b.val : Nat) : Int) (2 ^ j.val % 256) - ((b.val : Nat) : Int) ≠ 0 ∧ bits .xor .u8 ((b.val : Nat) : Int) (2 ^ j.val % 256) - ((b.val : Nat) : Int) < 255 ∧ -255 < bits .xor .u8 ((b.val : Nat) : Int) (2 ^ j.val % 256) - ((b.val : Nat) : Int) := by decide +kernel
theorem bit_turned_int {y : Int} (h : 0 ≤ y ∧ y < 256) (k : Nat) : 0 ≤ bits .xor .u8 y (2 ^ (k % 8) % 256) ∧ bits .xor .u8 y (2 ^ (k % 8) % 256) < 256 ∧ bits .xor .u8 y (2 ^ (k % 8) % 256) - y ≠ 0 ∧ bits .xor .u8 y (2 ^ (k % 8) % 256) - y < 255 ∧ -255 < bits .xor .u8 y (2 ^ (k % 8) % 256) - y := by
  obtain ⟨n, rfl⟩ : ∃ n : Nat, y = n := ⟨y.toNat, by omega⟩
  exact bit_turned ⟨n, by omega⟩ ⟨k % 8, by omega⟩
end Go.Proofs.YtcaafinjphionaaDoor
