/-
  Contracts of package bits, what makes and reads bytes: place, Put, Get.
-/
import Derived.Test.YtnafdgpkofffaaaDoorRows
import Derived.Test.YtnafdgpkofffaaaDoorMath
import Derived.WalkKit
import Derived.Outline
import Derived.StillTailTactics
import Derived.Deep.QuietTactic
import Derived.BigQuiet
import Derived.Deep.DeepCutAuto
import Derived.Deep.RegionWith
set_option maxRecDepth 4000
set_option linter.unusedVariables false
set_option linter.unusedSimpArgs false
namespace Go.Proofs.YtnafdgpkofffaaaDoor
open Go.RowKit

/-- Where the byte of rank i of n stands. -/
def placeV (i n : Int) (big : Bool) : Int := if big then n - 1 - i else i
theorem place_c (i n : Int) (big : Bool) (h0 : 0 ≤ i) (h1 : i < n) (h2 : n ≤ 9223372036854775807) (w : World) :
    Calls Tryd.prog 41 #[.int .i64 i, .int .i64 n, .bool big] w fun e w' => e = .returned (.int .i64 (placeV i n big)) ∧ w' = w := by
  cases big
  · go_enter Tryd.func41, Tryd.ntmps41
    go_wp2
    go_ret
    exact ⟨ret_i64 (by simp [placeV]), rfl⟩
  · go_enter Tryd.func41, Tryd.ntmps41
    go_wp2
    go_ret
    exact ⟨ret_i64 (by simp [placeV]), rfl⟩

/-- The byte of rank i. -/
def byteV (x : Int) (i : Nat) : Int := x / 2 ^ (8 * i) % 256
/-- What k rounds have written. -/
def putTo (x : Int) (n : Nat) (big : Bool) : Nat → List Int
  | 0 => List.replicate n 0
  | k + 1 => (putTo x n big k).set (placeV k n big).toNat (byteV x k)
theorem putTo_length (x : Int) (n : Nat) (big : Bool) (k : Nat) : (putTo x n big k).length = n := by
  induction k with
  | zero => simp [putTo]
  | succ k ih => simp [putTo, ih]
/-- Which bytes they are. -/
def putL (x : Int) (n : Nat) (big : Bool) : List Int := (List.range n).map fun i : Nat => byteV x (placeV i n big).toNat
theorem putTo_get (x : Int) (n : Nat) (big : Bool) (k : Nat) (hk : k ≤ n) (j : Nat) (hj : j < n) :
    (putTo x n big k)[j]? = some (if (placeV j n big).toNat < k then byteV x (placeV j n big).toNat else 0) := by
  induction k with
  | zero => simp [putTo, hj]
  | succ k ih =>
    have ih := ih (by omega)
    unfold putTo
    rw [List.getElem?_set, putTo_length]
    by_cases e : (placeV k n big).toNat = j
    · have e2 : (placeV j n big).toNat = k := by
        cases big <;> simp [placeV] at e ⊢ <;> omega
      rw [if_pos e, if_pos (by omega), e2, if_pos (by omega)]
    · have e2 : (placeV j n big).toNat ≠ k := by
        intro h; apply e
        cases big <;> simp [placeV] at h ⊢ <;> omega
      rw [if_neg e, ih]
      congr 1
      by_cases h : (placeV j n big).toNat < k
      · rw [if_pos h, if_pos (by omega)]
      · rw [if_neg h, if_neg (by omega)]
theorem putTo_full (x : Int) (n : Nat) (big : Bool) : putTo x n big n = putL x n big := by
  apply List.ext_getElem?
  intro j
  by_cases hj : j < n
  · rw [putTo_get x n big n (Nat.le_refl _) j hj]
    have e : (placeV j n big).toNat < n := by cases big <;> simp [placeV] <;> omega
    simp [putL, hj, e]
  · rw [List.getElem?_eq_none (by rw [putTo_length]; omega), List.getElem?_eq_none (by simp [putL]; omega)]

theorem u8_info : (Tryd.prog.info? 5).map (fun i => (i.zero, i.size, i.bytes)) = some (some (.int .u8 0), 1, 1) := by kernel_rfl

set_option maxHeartbeats 400000 in
theorem put_in (x : Int) (n : Nat) (s : Int) (big : Bool) (_hx0 : 0 ≤ x) (_hx1 : x < 18446744073709551616) (hs : (n : Int) = max 0 (min s 8)) (hn8 : n ≤ 8) (w : World) :
    Calls Tryd.prog 32 #[.int .u64 x, .int .i64 s, .bool big] w fun e w' => e = .returned (.slice (some ⟨w.heap.size, 0, none⟩) n n) ∧
      w'.ownsRow w.heap.size 5 1 (.slice (some ⟨w.heap.size, 0, none⟩) n n) n ((putL x n big).map (Value.int .u8)) ∧ Below w.heap.size w w' := by
  obtain ⟨i0, hi, hz0, hz1, hz2⟩ := info_parts u8_info
  go_enter Tryd.func32, Tryd.ntmps32
  go_upto_region 1 with fail
  go_cut [7] (fun s7 wx => s7 = .int .i64 n ∧ wx = w)
  case first =>
    go_wp2_with fail
    all_goals (go_meet; exact ⟨by congr 1; omega, rfl⟩)
  case rest =>
    obtain ⟨rfl, rfl⟩ := hcut
    clear hs
    go_wp2_with (refine wpList_make_full _ rfl (.tmp 13) (.tmp 13) 22 rfl wc.heap.size 5 i0 _ 1 Tryd.underlying22 hi hz0 hz1 .i64 .i64 n n n rfl rfl rfl rfl (by rw [hz2]; omega) (by unfold maxLen; omega) (Nat.le_refl _) ?_; intro w1 hown hg)
    rw [show (madeCells (Value.int .u8 0).cells (n * 1)).toList = (putTo x n big 0).map (Value.int .u8) by simp [putTo, Value.cells, toList_madeCells_one]] at hown
    have hbw : Below wc.heap.size wc w1 := (Below.refl _ _).grown hg (Nat.le_refl _) (by simp)
    clear hg hi hz0 hz1 hz2
    obtain ⟨B, hB⟩ : ∃ B, B = wc.heap.size := ⟨_, rfl⟩
    rw [← hB] at hown hbw ⊢
    have HB := Lib.hid hB
    clear hB
    go_loopw [16] (fun i wr => ∃ k : Nat, k ≤ n ∧ i = .int .i64 k ∧ wr.ownsRow B 5 1 (.slice (some ⟨B, 0, none⟩) n n) n ((putTo x n big k).map (Value.int .u8)) ∧ Below B wc wr) (fun i _ => n - (intOf i).toNat)
    case atStart => exact ⟨0, Nat.zero_le _, rfl, hown, hbw⟩
    case round =>
      clear hown hbw
      obtain ⟨k, hk, rfl, hown, hbw⟩ := hrel
      by_cases hlt : k < n
      · obtain ⟨p, hp⟩ : ∃ p : Nat, (p : Int) = placeV k n big := ⟨(placeV k n big).toNat, by cases big <;> simp [placeV] <;> omega⟩
        have hpn : p < n := by cases big <;> simp [placeV] at hp <;> omega
        have hpl : ∀ W, Calls Tryd.prog 41 #[.int .i64 k, .int .i64 n, .bool big] W fun e w' => e = .returned (.int .i64 p) ∧ w' = W := fun W => by
          rw [hp]; exact place_c k n big (by omega) (by omega) (by omega) W
        have HPL := Lib.hid hpl
        have HP := Lib.hid hp
        have hcell : wr.cell? ⟨B, p, none⟩ = some (.int .u8 ((putTo x n big k).getD p 0)) := by
          rw [hown.cellAt p (by omega)]
          simp [putTo_length, hpn]
        have hfrz : wr.frozen? ⟨B, p, none⟩ = false := hown.frozenAt p
        have HN := Lib.hid hown
        have HW := Lib.hid hbw
        have m1 : IntKind.i64.wrap (8 * (k : Int)) = 8 * (k : Int) := IntWalk.i64_in _ (by omega)
        have m2 : 0 ≤ 8 * (k : Int) := by omega
        have m3 : (8 * (k : Int)).toNat = 8 * k := by omega
        clear hpl hp hown hbw
        go_wp2_with fail
        go_region_with ((go_at_call 41; refine (HPL.out _).mono ?_; rintro e w' ⟨rfl, rfl⟩))
        go_wp2
        go_roundw
        case rel =>
          refine ⟨k + 1, by omega, by go_num, ?_, ?_⟩
          · have h := (HN.out.stored p (.int .u8 (byteV x k))).1.drew
            have e : ((putTo x n big k).map (Value.int .u8)).set p (Value.int .u8 (byteV x k)) = (putTo x n big (k + 1)).map (Value.int .u8) := by
              rw [putTo, List.map_set, ← HP.out]; rfl
            rw [e] at h
            exact h
          · exact (HW.out.setCell (p := ⟨B, p, none⟩) (Nat.le_refl _) _).drew
        case measure => simp [intOf]; omega
      · obtain rfl : k = n := by omega
        go_wp2
        go_ret
        rw [putTo_full] at hown
        rw [HB.out] at hown hbw
        exact ⟨by rw [← HB.out]; rfl, hown, hbw⟩
theorem put_c (x s : Int) (big : Bool) (hx0 : 0 ≤ x) (hx1 : x < 18446744073709551616) (w : World) :
    Calls Tryd.prog 32 #[.int .u64 x, .int .i64 s, .bool big] w fun e w' => e = .returned (.slice (some ⟨w.heap.size, 0, none⟩) (max 0 (min s 8)).toNat (max 0 (min s 8)).toNat) ∧
      w'.ownsRow w.heap.size 5 1 (.slice (some ⟨w.heap.size, 0, none⟩) (max 0 (min s 8)).toNat (max 0 (min s 8)).toNat) (max 0 (min s 8)).toNat ((putL x (max 0 (min s 8)).toNat big).map (Value.int .u8)) ∧ Below w.heap.size w w' :=
  put_in x _ s big hx0 hx1 (by omega) (by omega) w

/-! ### Get -/
/-- The number of the bytes of rank 0 to k-1 of n. -/
def getTo (xs : List Int) (n : Nat) (big : Bool) : Nat → Int
  | 0 => 0
  | k + 1 => getTo xs n big k + xs.getD (placeV k n big).toNat 0 * 2 ^ (8 * k)
def getV (xs : List Int) (big : Bool) : Int := getTo xs (min xs.length 8) big (min xs.length 8)
theorem pow8_succ (k : Nat) : (2 : Int) ^ (8 * (k + 1)) = 2 ^ (8 * k) * 256 := by
  rw [show 8 * (k + 1) = 8 * k + 8 by omega, Int.pow_add]; rfl
theorem getTo_lt {xs : List Int} (h : AreBytes xs) (n : Nat) (big : Bool) (k : Nat) : 0 ≤ getTo xs n big k ∧ getTo xs n big k < 2 ^ (8 * k) := by
  induction k with
  | zero => simp [getTo]
  | succ k ih =>
    have hb := h.getD (placeV k n big).toNat
    have hp := pow_pos' (8 * k)
    rw [pow8_succ]
    unfold getTo
    generalize xs.getD (placeV k n big).toNat 0 = c at *
    have h1 : 0 ≤ c * 2 ^ (8 * k) := Int.mul_nonneg hb.1 (Int.le_of_lt hp)
    have h2 : (c + 1) * 2 ^ (8 * k) ≤ 256 * 2 ^ (8 * k) := Int.mul_le_mul_of_nonneg_right (by omega) (Int.le_of_lt hp)
    rw [Int.add_mul] at h2
    rw [Int.mul_comm (2 ^ (8 * k)) 256]
    omega
theorem getV_lt {xs : List Int} (h : AreBytes xs) (big : Bool) : 0 ≤ getV xs big ∧ getV xs big < 18446744073709551616 := by
  have h1 := getTo_lt h (min xs.length 8) big (min xs.length 8)
  have h2 := (pow_le_64 (m := 8 * min xs.length 8) (by omega)).2
  unfold getV
  omega
theorem get_step {xs : List Int} (h : AreBytes xs) (n k : Nat) (big : Bool) (hk : k < 8) :
    bits .or .u64 (getTo xs n big k) (xs.getD (placeV k n big).toNat 0 * 2 ^ (8 * k)) = getTo xs n big (k + 1) ∧
      IntKind.u64.wrap (xs.getD (placeV k n big).toNat 0 * 2 ^ (8 * k)) = xs.getD (placeV k n big).toNat 0 * 2 ^ (8 * k) := by
  have h1 := getTo_lt h n big k
  have h2 := getTo_lt h n big (k + 1)
  have h3 := (pow_le_64 (m := 8 * (k + 1)) (by omega)).2
  have hb := h.getD (placeV k n big).toNat
  have h0 : 0 ≤ xs.getD (placeV k n big).toNat 0 * 2 ^ (8 * k) := Int.mul_nonneg hb.1 (Int.le_of_lt (pow_pos' _))
  have e : getTo xs n big (k + 1) = getTo xs n big k + xs.getD (placeV k n big).toNat 0 * 2 ^ (8 * k) := rfl
  rw [e] at h2 ⊢
  exact ⟨or_add _ _ _ h1.1 h1.2 hb.1 (by omega), IntWalk.u64_in _ (by omega)⟩

set_option maxHeartbeats 400000 in
theorem get_in (b off c : Nat) (xs : List Int) (n : Nat) (big : Bool) (hx : AreBytes xs) (hn : n = min xs.length 8) (hlen : xs.length ≤ 9223372036854775807) (w : World) (hw : BytesAt w b off xs) :
    Calls Tryd.prog 37 #[.slice (some ⟨b, off, none⟩) xs.length c, .bool big] w fun e w' => e = .returned (.int .u64 (getV xs big)) ∧ w' = w := by
  have hv : getV xs big = getTo xs n big n := by rw [hn]; rfl
  rw [hv]
  clear hv
  have hn8 : n ≤ 8 := by omega
  have hnl : n ≤ xs.length := by omega
  have hn' : (n : Int) = min (xs.length : Int) 8 := by omega
  have HN := Lib.hid hn'
  clear hn hn'
  go_enter Tryd.func37, Tryd.ntmps37
  go_upto_region 1 with fail
  go_cut [5] (fun s5 wx => s5 = .int .i64 n ∧ wx = w)
  case first =>
    go_wp2_with fail
    all_goals (go_meet; exact ⟨by rw [HN.out]; congr 1; omega, rfl⟩)
  case rest =>
    obtain ⟨rfl, rfl⟩ := hcut
    go_wp2_with fail
    go_loop [6, 12] (fun x i => ∃ k : Nat, k ≤ n ∧ i = .int .i64 k ∧ x = .int .u64 (getTo xs n big k)) (fun _ i => n - (intOf i).toNat)
    case atStart => exact ⟨0, Nat.zero_le _, rfl, rfl⟩
    case round =>
      obtain ⟨k, hk, rfl, rfl⟩ := hrel
      by_cases hlt : k < n
      · obtain ⟨p, hp⟩ : ∃ p : Nat, (p : Int) = placeV k n big := ⟨(placeV k n big).toNat, by cases big <;> simp [placeV] <;> omega⟩
        have hpn : p < n := by cases big <;> simp [placeV] at hp <;> omega
        have hpl : ∀ W, Calls Tryd.prog 41 #[.int .i64 k, .int .i64 n, .bool big] W fun e w' => e = .returned (.int .i64 p) ∧ w' = W := fun W => by
          rw [hp]; exact place_c k n big (by omega) (by omega) (by omega) W
        have HPL := Lib.hid hpl
        have HS := Lib.hid (get_step hx n k big (by omega))
        have HP := Lib.hid hp
        have hcell := hw p (by omega)
        have m1 : IntKind.i64.wrap (8 * (k : Int)) = 8 * (k : Int) := IntWalk.i64_in _ (by omega)
        have m2 : 0 ≤ 8 * (k : Int) := by omega
        have m3 : (8 * (k : Int)).toNat = 8 * k := by omega
        have hb := hx.getD p
        generalize hq : xs.getD p 0 = q at *
        have HQ := Lib.hid hq
        have HW := Lib.hid hw
        clear hpl hp hw hx hq
        go_wp2_with (go_at_call 41; refine (HPL.out _).mono ?_; rintro e w' ⟨rfl, rfl⟩)
        go_round
        case rel =>
          refine ⟨k + 1, by omega, by go_num, ?_⟩
          have h := HS.out
          rw [show (placeV k n big).toNat = p by rw [← HP.out]; rfl, HQ.out] at h
          rw [h.2, h.1]
        case measure => simp [intOf]; omega
      · obtain rfl : k = n := by omega
        go_wp2
        go_ret
        exact ⟨rfl, rfl⟩
end Go.Proofs.YtnafdgpkofffaaaDoor
