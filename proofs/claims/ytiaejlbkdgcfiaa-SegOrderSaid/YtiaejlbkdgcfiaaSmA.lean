/-
  Package sum: what bytes add up to (plain numbers), fold, pair, Sum, Right, and the document's own Sum, Right.
-/
import Derived.Test.YtiaejlbkdgcfiaaBuf
import Derived.Test.YtiaejlbkdgcfiaaDeps
import Derived.Handy
import Derived.WalkKit
set_option maxRecDepth 4000
set_option linter.unusedVariables false
set_option linter.unusedSimpArgs false
namespace Go.Proofs.Ytiaejlbkdgcfiaa
open Go.RowKit

/-! ### Plain numbers -/
/-- What is left of a total of which all above sixteen bits is added at the bottom. -/
def foldV (x : Int) : Int := if x = 0 then 0 else (x - 1) % 65535 + 1
/-- The number of the pair of rank i. -/
def pairV (xs : List Int) (i : Nat) : Int := xs.getD (2 * i) 0 * 256 + xs.getD (2 * i + 1) 0
/-- The first k pairs, added. -/
def pairsTo (xs : List Int) : Nat → Int
  | 0 => 0
  | k + 1 => pairsTo xs k + pairV xs k
def pairsV (xs : List Int) : Int := pairsTo xs ((xs.length + 1) / 2)
def sumV (xs : List Int) : Int := 65535 - foldV (pairsV xs)
theorem pairV_lt {xs : List Int} (h : AreBytes xs) (i : Nat) : 0 ≤ pairV xs i ∧ pairV xs i ≤ 65535 := by
  have h1 := h.getD (2 * i)
  have h2 := h.getD (2 * i + 1)
  unfold pairV
  omega
theorem pairsTo_lt {xs : List Int} (h : AreBytes xs) : ∀ k, 0 ≤ pairsTo xs k ∧ pairsTo xs k ≤ 65535 * k
  | 0 => by simp [pairsTo]
  | k + 1 => by
    have h1 := pairsTo_lt h k
    have h2 := pairV_lt h k
    unfold pairsTo
    omega
theorem foldV_lt (x : Int) : 0 ≤ foldV x ∧ foldV x ≤ 65535 := by
  unfold foldV
  split <;> omega
theorem foldV_step (x : Int) (h : 65535 < x) : foldV (x / 65536 + x % 65536) = foldV x := by
  unfold foldV
  rw [if_neg (by omega), if_neg (by omega)]
  omega
theorem foldV_small (x : Int) (h0 : 0 ≤ x) (h1 : x ≤ 65535) : foldV x = x := by
  unfold foldV
  split <;> omega
theorem foldV_add (x p : Int) (h0 : 0 ≤ x) (h1 : 0 ≤ p) (h2 : p ≤ 65535) : foldV (x + p) = if foldV x + p > 65535 then foldV x + p - 65535 else foldV x + p := by
  unfold foldV
  split <;> split <;> split <;> omega
theorem pairsV_lt {xs : List Int} (h : AreBytes xs) (hl : xs.length ≤ 140737488355328) : 0 ≤ pairsV xs ∧ pairsV xs < 18446744073709551616 := by
  have := pairsTo_lt h ((xs.length + 1) / 2)
  unfold pairsV
  omega
theorem sumV_lt (xs : List Int) : 0 ≤ sumV xs ∧ sumV xs ≤ 65535 := by
  have := foldV_lt (pairsV xs)
  unfold sumV
  omega

/-! ### fold -/
theorem fold_c (x : Int) (h0 : 0 ≤ x) (h1 : x < 18446744073709551616) (w : World) :
    Calls Try.prog 55 #[.int .u64 x] w fun e w' => e = .returned (.int .u64 (foldV x)) ∧ w' = w := by
  go_enter Try.func55, Try.ntmps55
  go_wp2_with fail
  go_loop [0] (fun t => ∃ y : Int, 0 ≤ y ∧ y < 18446744073709551616 ∧ Hid (foldV y = foldV x) ∧ t = .int .u64 y) (fun t => (intOf t).toNat)
  case atStart => exact ⟨x, h0, h1, Lib.hid rfl, rfl⟩
  case round =>
    obtain ⟨y, hy0, hy1, HY, rfl⟩ := hrel
    by_cases hlt : 65535 < y
    · have hand : bits .and .u64 y 65535 = y % 65536 := and_mask y 16 hy0 hy1 (by omega)
      go_wp2_with fail
      go_round
      case rel => exact ⟨y / 65536 + y % 65536, by omega, by omega, Lib.hid (by rw [foldV_step y hlt]; exact HY.out), by congr 1⟩
      case measure => simp [intOf]; omega
    · go_wp2_with fail
      go_ret
      exact ⟨ret_u64 (by rw [← HY.out, foldV_small y hy0 (by omega)]), rfl⟩

/-! ### pair -/
theorem getV_two (x y : Int) : getV [x, y] true = y + x * 256 := by
  simp [getV, getTo, placeV]
/-- The first two bytes, laid into two noughts. -/
theorem two_row (xs : List Int) : (List.take 2 (xs.map (Value.int .u8)) ++ List.drop (min 2 xs.length) [Value.int .u8 0, Value.int .u8 0]).toArray = #[.int .u8 (xs.getD 0 0), .int .u8 (xs.getD 1 0)] := by
  rcases xs with _ | ⟨x, _ | ⟨y, r⟩⟩ <;> simp
theorem blk_two {w : World} {b : Nat} {x y : Int} {T : TypeId} (h : Blk w b #[.int .u8 x, .int .u8 y] T) : BytesIn w (.slice (some ⟨b, 0, none⟩) 2 2) [x, y] := by
  refine .inr ⟨b, 0, 2, rfl, fun i hi => ?_⟩
  match i, hi with
  | 0, _ => exact h.cell 0
  | 1, _ => exact h.cell 1
theorem pair_get {w W : World} {G : Nat} {x y : Int} {T : TypeId} (h : Blk w G #[.int .u8 x, .int .u8 y] T) (ho : AreBytes [x, y]) (g : Grew W w) :
    Calls Try.prog 57 #[.slice (some ⟨G, 0, none⟩) 2 2, .bool true] w fun e w' => e = .returned (.int .u64 (getV [x, y] true)) ∧ Grew W w' :=
  (get_c true ho (by simp) w (blk_two h)).mono fun _ _ ⟨he, hw⟩ => ⟨he, by rw [hw]; exact g⟩
theorem pair_c {v : Value} {xs : List Int} (w : World) (hb : Buf w v xs) :
    Calls Try.prog 54 #[v] w fun e w' => e = .returned (.int .u64 (pairV xs 0)) ∧ Grew w w' := by
  obtain ⟨i0, hi, hz0, hz1, hz2⟩ := info_parts u8_info
  have hsz : (Try.prog.info? 5).map (·.size) = some 1 := by simp [hi, hz1]
  obtain ⟨a, c, rfl, hc, ha⟩ := hb.shape
  have h0 := hb.ok.getD 0
  have h1 := hb.ok.getD 1
  have HB := Lib.hid hb
  have hp : pairV xs 0 = getV [xs.getD 0 0, xs.getD 1 0] true := by rw [getV_two]; unfold pairV; simp only [Nat.mul_zero, Nat.zero_add]; omega
  rw [hp]
  have hok2 : AreBytes [xs.getD 0 0, xs.getD 1 0] := by
    intro x hx
    simp only [List.mem_cons, List.not_mem_nil, or_false] at hx
    rcases hx with rfl | rfl <;> assumption
  have HO := Lib.hid hok2
  clear hb ha hc hp hok2
  go_enter Try.func54, Try.ntmps54
  go_upto_region 2 with fail
  have K1 : Blk (w.alloc (.cells #[.int .u8 0, .int .u8 0] 80)) w.heap.size #[.int .u8 0, .int .u8 0] 80 := Blk.new w _ _ _ rfl
  have g1 : Grew w (w.alloc (.cells #[.int .u8 0, .int .u8 0] 80)) := (Grew.refl w).alloc _
  have HB1 := Lib.hid (HB.out.grew g1)
  generalize (w.alloc (.cells #[.int .u8 0, .int .u8 0] 80)) = w1 at *
  generalize hG : w.heap.size = G at *
  have HG := Lib.hid hG
  clear hG
  by_cases hx : (xs.take 2).length = 0
  · obtain rfl : xs = [] := by
      rcases xs with _ | ⟨x, r⟩
      · rfl
      · simp at hx
    go_wp2_with (refine wpList_copy_nothing rfl (.tmp 5) (.tmp 6) 23 23 rfl 5 Try.underlying23 hsz _ _ _ _ _ _ (by rfl) (by rfl) (by rfl) ?_)
    refine (pair_get K1 HO.out g1).mono ?_
    rintro e w2 ⟨rfl, g2⟩
    go_wp2_with fail
    go_ret
    exact ⟨rfl, g2⟩
  · obtain ⟨ad, rfl, hsrc⟩ := HB1.out.src (n := xs.length) (by rw [List.length_take] at hx; omega)
    have hn : ((xs.take 2).map (Value.int .u8)).length = Nat.min xs.length 2 := by rw [List.length_map, List.length_take, Nat.min_comm]
    have hsr : ∀ j v, ((xs.take 2).map (Value.int .u8))[j]? = some v → w1.cell? (ad.add j) = some v := fun j v hj => by
      refine hsrc j v ?_
      rw [List.map_take] at hj
      have hj' := (List.getElem?_eq_some_iff.1 hj).1
      rw [List.length_take] at hj'
      rwa [List.getElem?_take_of_lt (by omega)] at hj
    have hfit : 0 + ((xs.take 2).map (Value.int .u8)).length ≤ 2 := by rw [hn, Nat.zero_add]; exact Nat.min_le_right xs.length 2
    have HN := Lib.hid hn
    have HS := Lib.hid hsr
    have HF := Lib.hid hfit
    clear hn hsr hsrc hfit
    go_wp2_with (refine wpList_copy_own rfl (.tmp 5) (.tmp 6) 23 23 rfl 5 Try.underlying23 hsz G 0 2 2 ad xs.length c (by rfl) (by rfl) #[.int .u8 0, .int .u8 0] 80 K1 _ HN.out HS.out HF.out (fun x hx => by obtain ⟨y, _, rfl⟩ := List.mem_map.1 hx; rfl) ?_)
    rw [two_row]
    have K2 : Blk (w1.setRow G #[.int .u8 (xs.getD 0 0), .int .u8 (xs.getD 1 0)]) G #[.int .u8 (xs.getD 0 0), .int .u8 (xs.getD 1 0)] 80 := setRow_heap w1 G _ _ 80 _ K1
    have g2 : Grew w (w1.setRow G #[.int .u8 (xs.getD 0 0), .int .u8 (xs.getD 1 0)]) := (Only.setRow w1 G _).grew g1 (by rw [HG.out]; exact Nat.le_refl _)
    refine (pair_get K2 HO.out g2).mono ?_
    rintro e w3 ⟨rfl, g3⟩
    go_wp2_with fail
    go_ret
    exact ⟨rfl, g3⟩

/-! ### Sum -/
theorem pairV_cut (xs : List Int) (i : Nat) (h : 2 * i ≤ xs.length) : pairV (cutL xs (2 * i) xs.length) 0 = pairV xs i := by
  unfold pairV cutL
  simp only [List.getD_eq_getElem?_getD, List.getElem?_take, List.getElem?_drop, Nat.mul_zero, Nat.zero_add, Nat.add_zero]
  by_cases h1 : 2 * i + 1 < xs.length
  · rw [if_pos (by omega), if_pos (by omega)]
  · rw [if_neg (c := 1 < _) (by omega), List.getElem?_eq_none (i := 2 * i + 1) (by omega)]
    by_cases h2 : 2 * i < xs.length
    · rw [if_pos (by omega)]
    · rw [if_neg (by omega), List.getElem?_eq_none (i := 2 * i) (by omega)]
theorem not16 (F : Int) (h0 : 0 ≤ F) (h1 : F ≤ 65535) : bits .andNot .u64 65535 F = 65535 - F := by
  obtain ⟨f, rfl⟩ := Int.eq_ofNat_of_zero_le h0
  have h := u64_andNot_nat 65535 f (by decide) (by omega)
  rw [Nat.and_comm, show (65535 : Nat) = 2 ^ 16 - 1 by decide, Nat.and_two_pow_sub_one_eq_mod] at h
  rw [show (((2 ^ 16 - 1 : Nat) : Nat) : Int) = 65535 by decide] at h
  rw [h]
  omega
set_option maxHeartbeats 1000000 in
theorem sum_c {v : Value} {xs : List Int} (w : World) (hb : Buf w v xs) (hl : xs.length ≤ 140737488355328) :
    Calls Try.prog 44 #[v] w fun e w' => e = .returned (.int .i64 (sumV xs)) ∧ Grew w w' := by
  obtain ⟨a, c, rfl, hc, ha⟩ := hb.shape
  have hok := hb.ok
  have HB := Lib.hid hb
  have hlt := pairsV_lt hok hl
  have hfl := foldV_lt (pairsV xs)
  obtain ⟨F, hF⟩ : ∃ F, F = foldV (pairsV xs) := ⟨_, rfl⟩
  have hsv : sumV xs = 65535 - F := by rw [hF]; rfl
  rw [← hF] at hfl
  rw [hsv]
  have hf : ∀ w, Calls Try.prog 55 #[.int .u64 (pairsV xs)] w fun e w' => e = .returned (.int .u64 F) ∧ w' = w := fun w => by rw [hF]; exact fold_c _ hlt.1 hlt.2 w
  have hand := not16 F hfl.1 hfl.2
  have hpt : ∀ k, k ≤ (xs.length + 1) / 2 → 0 ≤ pairsTo xs k ∧ pairsTo xs k < 18446744073709551616 := fun k hk => by have := pairsTo_lt hok k; omega
  obtain ⟨m, hm⟩ : ∃ m, m = (xs.length + 1) / 2 := ⟨_, rfl⟩
  have hmi : ((xs.length : Int) + 1) / 2 = (m : Int) := by omega
  have HMI := Lib.hid hmi
  rw [← hm] at hpt
  have hpv : pairsV xs = pairsTo xs m := by rw [hm]; rfl
  rw [hpv] at hf
  have HF := Lib.hid hf
  have HA := Lib.hid hand
  have HP := Lib.hid hpt
  have HM := Lib.hid hm
  have HO := Lib.hid hok
  obtain ⟨n, hn⟩ : ∃ n, n = xs.length := ⟨_, rfl⟩
  rw [← hn] at HB HMI HM hl ⊢
  have HN := Lib.hid hn
  clear hF hsv hf hand hpt hm hpv hlt hmi hn ha hc hb hok
  go_enter Try.func44, Try.ntmps44
  go_upto_region 3 with fail
  rw [HMI.out]
  go_loopw [3, 9] (fun t i wr => ∃ k : Nat, k ≤ m ∧ i = .int .i64 k ∧ t = .int .u64 (pairsTo xs k) ∧ Grew w wr) (fun _ i _ => m - (intOf i).toNat)
  case atStart => exact ⟨0, Nat.zero_le _, rfl, rfl, Grew.refl w⟩
  case round =>
    obtain ⟨k, hk, rfl, rfl, g⟩ := hrel
    by_cases hlt : k < m
    · have hlt' : (k : Int) < (m : Nat) := by omega
      have hkn : 2 * k ≤ n := by have := HM.out; omega
      obtain ⟨a', c', hcut, _, _, _, hrun⟩ := HB.out.run_cut (lo := 2 * k) (hi := n) hkn (by rw [HN.out]; exact Nat.le_refl _)
      have hrun := hrun HN.out
      have hrun' : ∀ w', (Instr.sliceAt 23 (.slice a n c) (some (.int .i64 (2 * (k : Int)))) none none).run Try.prog w' = .ok (.slice a' (n - 2 * k) c') w' := fun w' => by
        have := hrun .i64 w'
        rwa [show ((2 * k : Nat) : Int) = 2 * (k : Int) by omega] at this
      have HRUN := Lib.hid hrun'
      have hpc := pair_c _ (hcut.grew g)
      rw [show pairV (cutL xs (2 * k) n) 0 = pairV xs k by rw [HN.out]; exact pairV_cut xs k (by rw [← HN.out]; exact hkn)] at hpc
      have HPC := Lib.hid hpc
      have hst : pairsTo xs (k + 1) = pairsTo xs k + pairV xs k := rfl
      have hp1 := HP.out k hk
      have hp2 := HP.out (k + 1) hlt
      rw [hst] at hp2
      have hp3 := pairV_lt HO.out k
      have HST := Lib.hid hst
      clear hst hpc hrun hrun' hcut
      generalize pairV xs k = p at *
      generalize hT : pairsTo xs k = T at *
      have HT := Lib.hid hT
      clear hT
      go_wp2_with (first | (refine wpList_cut rfl _ (.tmp 13) (some (.tmp 15)) none rfl _ (by exact HRUN.out _) ?_) | (refine HPC.out.mono ?_; rintro e w2 ⟨rfl, g2⟩))
      go_roundw
      case rel => exact ⟨k + 1, by omega, by go_num, by rw [HST.out], g.trans g2⟩
      case measure => simp [intOf]; omega
    · obtain rfl : k = m := by omega
      go_wp2_with (refine (HF.out _).mono ?_; rintro e w2 ⟨rfl, h2⟩; obtain rfl := h2.symm)
      rw [HA.out]
      go_wp2_with fail
      go_ret
      exact ⟨ret_i64 (IntWalk.wrap64_in _ (by omega)), g⟩
theorem right_c {v : Value} {xs : List Int} (w : World) (hb : Buf w v xs) (hl : xs.length ≤ 140737488355328) :
    Calls Try.prog 48 #[v] w fun e w' => e = .returned (.bool (decide (sumV xs = 0))) ∧ Grew w w' := by
  have hs := sum_c w hb hl
  have hbd := sumV_lt xs
  obtain ⟨a, c, rfl, _, _⟩ := hb.shape
  generalize sumV xs = s at *
  have HS := Lib.hid hs
  clear hs hb
  go_enter Try.func48, Try.ntmps48
  go_wp2_with (refine HS.out.mono ?_; rintro e w2 ⟨rfl, g2⟩)
  go_ret
  exact ⟨ret_bool (by first | rfl | simp), g2⟩

/-! ### The document's own -/
theorem refStep {xs : List Int} (_h : AreBytes xs) (k : Nat) (n : Nat) (_hn : n = xs.length) (_hk : 2 * k < n) : xs.getD (2 * k + 1) 0 = if 2 * k + 1 < n then xs.getD (2 * k + 1) 0 else 0 := by
  split
  · rfl
  · rw [List.getD_eq_getElem?_getD, List.getElem?_eq_none (by omega)]; rfl
set_option maxHeartbeats 1000000 in
theorem refSum_c {v : Value} {xs : List Int} (w : World) (hb : Buf w v xs) (hl : xs.length ≤ 140737488355328) :
    Calls Try.prog 28 #[v] w fun e w' => e = .returned (.int .i64 (sumV xs)) ∧ Grew w w' := by
  obtain ⟨a, c, rfl, hc, ha⟩ := hb.shape
  have hok := hb.ok
  obtain ⟨m, hm⟩ : ∃ m, m = (xs.length + 1) / 2 := ⟨_, rfl⟩
  have hsv : sumV xs = 65535 - foldV (pairsTo xs m) := by rw [hm]; rfl
  rw [hsv]
  have HA := Lib.hid ha
  have HO := Lib.hid hok
  obtain ⟨n, hn⟩ : ∃ n, n = xs.length := ⟨_, rfl⟩
  rw [← hn] at hm hl ⊢
  have HM := Lib.hid hm
  have HN := Lib.hid hn
  clear hsv hm hn hc ha hb hok
  go_enter Try.func28, Try.ntmps28
  go_upto_region 3 with fail
  go_loopw [3, 4] (fun t i wr => ∃ k : Nat, k ≤ m ∧ i = .int .i64 (2 * k) ∧ t = .int .i64 (foldV (pairsTo xs k)) ∧ Grew w wr) (fun _ i _ => 2 * m - (intOf i).toNat)
  case atStart => exact ⟨0, Nat.zero_le _, rfl, rfl, Grew.refl w⟩
  case round =>
    obtain ⟨k, hk, rfl, rfl, g⟩ := hrel
    have hfl := foldV_lt (pairsTo xs k)
    by_cases hlt : k < m
    · have hkn : 2 * k < n := by have := HM.out; omega
      have hkn' : 2 * (k : Int) < n := by omega
      have hst : pairsTo xs (k + 1) = pairsTo xs k + pairV xs k := rfl
      have hp1 := (pairsTo_lt HO.out k).1
      have hp3 := pairV_lt HO.out k
      have hadd := foldV_add _ _ hp1 hp3.1 hp3.2
      rw [← hst] at hadd
      have hpv : pairV xs k = xs.getD (2 * k) 0 * 256 + xs.getD (2 * k + 1) 0 := rfl
      rw [hpv] at hadd
      have hx := HO.out.getD (2 * k)
      have hy := HO.out.getD (2 * k + 1)
      obtain ⟨b, off, rfl, hat⟩ := HA.out (by intro e; have := HN.out; subst e; simp at this; omega)
      have c0 : wr.cell? ⟨b, off + 2 * k, none⟩ = some (.int .u8 (xs.getD (2 * k) 0)) := (hat.grew g) _ (by rw [← HN.out]; exact hkn)
      have HAD := Lib.hid hadd
      clear hst hp1 hp3 hadd hpv
      generalize hF' : foldV (pairsTo xs (k + 1)) = F' at *
      generalize hF : foldV (pairsTo xs k) = F at *
      have HF' := Lib.hid hF'
      have HF := Lib.hid hF
      clear hF hF'
      have m1 : (2 * (k : Int)).toNat = 2 * k := by omega
      have m2 : (2 * (k : Int) + 1).toNat = 2 * k + 1 := by omega
      by_cases h1 : 2 * k + 1 < n
      · have h1' : 2 * (k : Int) + 1 < n := by omega
        have c1 : wr.cell? ⟨b, off + (2 * k + 1), none⟩ = some (.int .u8 (xs.getD (2 * k + 1) 0)) := (hat.grew g) _ (by rw [← HN.out]; exact h1)
        have HAT := Lib.hid hat
        clear hat
        generalize xs.getD (2 * k) 0 = X at *
        generalize xs.getD (2 * k + 1) 0 = Y at *
        by_cases h2 : 65535 < F + 256 * X + Y
        · go_wp2_with fail
          go_roundw
          case rel => exact ⟨k + 1, by omega, by go_num, by rw [HF'.out, HAD.out, if_pos (by omega)]; go_num, g⟩
          case measure => simp [intOf]; omega
        · go_wp2_with fail
          go_roundw
          case rel => exact ⟨k + 1, by omega, by go_num, by rw [HF'.out, HAD.out, if_neg (by omega)]; go_num, g⟩
          case measure => simp [intOf]; omega
      · have h1' : ¬ (2 * (k : Int) + 1 < n) := by omega
        have hY : xs.getD (2 * k + 1) 0 = 0 := by rw [refStep HO.out k n HN.out hkn, if_neg h1]
        have HAT := Lib.hid hat
        rw [hY] at HAD
        clear hat hY hy
        generalize xs.getD (2 * k) 0 = X at *
        by_cases h2 : 65535 < F + 256 * X
        · go_wp2_with fail
          go_roundw
          case rel => exact ⟨k + 1, by omega, by go_num, by rw [HF'.out, HAD.out, if_pos (by omega)]; go_num, g⟩
          case measure => simp [intOf]; omega
        · go_wp2_with fail
          go_roundw
          case rel => exact ⟨k + 1, by omega, by go_num, by rw [HF'.out, HAD.out, if_neg (by omega)]; go_num, g⟩
          case measure => simp [intOf]; omega
    · obtain rfl : k = m := by omega
      have hkn : ¬ (2 * (k : Int) < n) := by have := HM.out; omega
      generalize hF : foldV (pairsTo xs k) = F at *
      have HF := Lib.hid hF
      clear hF
      go_wp2_with fail
      go_ret
      exact ⟨ret_i64 (by rw [HF.out]), g⟩
theorem refRight_c {v : Value} {xs : List Int} (w : World) (hb : Buf w v xs) (hl : xs.length ≤ 140737488355328) :
    Calls Try.prog 34 #[v] w fun e w' => e = .returned (.bool (decide (sumV xs = 0))) ∧ Grew w w' := by
  have hs := refSum_c w hb hl
  have hbd := sumV_lt xs
  obtain ⟨a, c, rfl, _, _⟩ := hb.shape
  generalize sumV xs = s at *
  have HS := Lib.hid hs
  clear hs hb
  go_enter Try.func34, Try.ntmps34
  go_wp2_with (refine HS.out.mono ?_; rintro e w2 ⟨rfl, g2⟩)
  go_ret
  exact ⟨ret_bool (by first | rfl | simp), g2⟩
end Go.Proofs.Ytiaejlbkdgcfiaa
