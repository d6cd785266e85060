/-
  Contracts of the document's own text about instructions: in, imms, and Branch's f that there is not.
-/
import Derived.Test.YtgekmhcekkmdhaaDecR4
import Derived.Test.YtgekmhcekkmdhaaTail
set_option linter.unusedVariables false
set_option linter.unusedSimpArgs false
namespace Go.Proofs.Ytgekmhcekkmdhaa
open Go Go.RowKit

/-- Numbers of 64 bits in memory. -/
def U64At (w : World) (b : Nat) (ls : List Nat) : Prop := ∀ k, k < ls.length → w.cell? ⟨b, k, none⟩ = some (.int .u64 (ls.getD k 0 : Nat))
def memB (ls : List Nat) (n : Nat) (k : Nat) : Bool := (ls.drop k).any (· == n)
theorem memB_step (ls : List Nat) (n k : Nat) (h : k < ls.length) : memB ls n k = (ls.getD k 0 == n || memB ls n (k + 1)) := by
  unfold memB
  rw [List.drop_eq_getElem_cons h, List.any_cons, List.getD_eq_getElem?_getD, List.getElem?_eq_getElem h]
  rfl
theorem in_c (ls : List Nat) (n : Nat) (hn : n < 18446744073709551616) (hl : ls.length < 100) (b : Nat) (w : World) (hc : U64At w b ls) :
    Calls Try.prog 54 #[.slice (some ⟨b, 0, none⟩) ls.length ls.length, .int .u64 (n : Nat)] w fun e w' => e = .returned (.bool (memB ls n 0)) ∧ w' = w := by
  obtain ⟨m, hm⟩ : ∃ m, m = ls.length := ⟨_, rfl⟩
  unfold U64At at hc
  rw [← hm] at hc hl ⊢
  have HC := Lib.hid hc
  have HM := Lib.hid hm
  clear hc hm
  obtain ⟨A, hA⟩ : ∃ A, memB ls n 0 = A := ⟨_, rfl⟩
  rw [hA]
  have HA := Lib.hid hA
  clear hA
  go_enter Try.func54, Try.ntmps54
  go_wp2
  go_loop [5] (fun i => ∃ k : Nat, k ≤ m ∧ i = .int .i64 k ∧ Hid (memB ls n k = A)) (fun i => m - (intOf i).toNat)
  case atStart => exact ⟨0, Nat.zero_le _, rfl, HA⟩
  case round =>
    obtain ⟨k, hk, rfl, hk2⟩ := hrel
    by_cases hlt : k < m
    · have hcell := HC.out k hlt
      have hs := memB_step ls n k (by rw [← HM.out]; exact hlt)
      rw [hk2.out] at hs
      clear hk2
      by_cases he : ls.getD k 0 = n
      · have hA : A = true := by rw [hs, he]; simp
        subst hA
        rw [he] at hcell
        clear hs he
        go_wp2
        go_ret
        exact ⟨rfl, rfl⟩
      · have hb : (((ls.getD k 0 : Nat) : Int) == (n : Int)) = false := by rw [beq_eq_false_iff_ne]; omega
        have hs2 : memB ls n (k + 1) = A := by
          rw [hs, show (ls.getD k 0 == n) = false by simpa using he]; simp
        have HS := Lib.hid hs2
        clear hs hs2 he
        generalize ls.getD k 0 = q at *
        go_wp2
        go_round
        case rel => exact ⟨k + 1, by omega, by go_num, HS⟩
        case measure => simp [intOf]; omega
    · obtain rfl : k = m := by omega
      have hA : A = false := by
        rw [← hk2.out]; unfold memB; rw [HM.out, List.drop_length]; rfl
      subst hA
      clear hk2
      go_wp2
      go_ret
      exact ⟨rfl, rfl⟩
-- GEN
abbrev iNew (rd s1 s2 : Int) : Value := .agg #[.int .i64 0, .int .i64 0, .bool false, .int .i64 rd, .int .i64 s1, .int .i64 s2, .int .u64 0]
theorem wi14 (x : Nat) : IntKind.i64.wrap ((fN x 14 12 : Nat) : Int) = ((fN x 14 12 : Nat) : Int) := by
  have := fN_lt x 14 12 8 (by decide)
  exact IntWalk.i64_in _ (by omega)
set_option maxHeartbeats 1000000 in
theorem im_o_false (x : Nat) (hx : x < 4294967296) (rd s1 s2 : Int) (h1 : ¬ fN x 14 12 = 1) (h5 : ¬ fN x 14 12 = 5) {W w : World} (hg : Grew W w) :
    Calls Try.prog 51 #[.int .u32 (x : Nat), iNew rd s1 s2, .bool false] w fun e w' => e = .returned (.tuple #[.agg #[.int .i64 8, .int .i64 (fN x 14 12 : Nat), .bool false, .int .i64 rd, .int .i64 s1, .int .i64 0, .int .u64 (sextV (fN x 31 20 : Nat) 12)], .bool true]) ∧ Grew W w' := by
  have gs : W.heap.size ≤ w.heap.size := hg.size
  have b1 : (((fN x 14 12 : Nat) : Int) == 1) = false := by rw [beq_eq_false_iff_ne]; omega
  have b5 : (((fN x 14 12 : Nat) : Int) == 5) = false := by rw [beq_eq_false_iff_ne]; omega
  have n1 : (((fN x 14 12 : Nat) : Int) != 1) = true := by simp [bne, b1]
  have n5 : (((fN x 14 12 : Nat) : Int) != 5) = true := by simp [bne, b5]
  clear h1 h5
  have b14_12 := fN_lt x 14 12 8 (by decide)
  have b31_20 := fN_lt x 31 20 4096 (by decide)
  go_enter Try.func51, Try.ntmps51
  go_wp2_with fail
  refine (r3f x hx 14 12 (by decide) (by decide) (by decide) _).mono ?_
  rintro e w1 ⟨rfl, h1⟩
  obtain rfl := h1.symm
  go_wp2_with fail
  refine (r3f x hx 31 20 (by decide) (by decide) (by decide) _).mono ?_
  rintro e w1 ⟨rfl, h1⟩
  obtain rfl := h1.symm
  go_wp2_with fail
  refine (r3s _ (by omega) _ _).mono ?_
  rintro e w1 ⟨rfl, h1⟩
  obtain rfl := h1.symm
  go_wp2_with fail
  go_returns
  exact ⟨rfl, (by repeat (first | with_reducible exact hg | with_reducible refine Grew.alloc ?_ _ | with_reducible refine Grew.drewN ?_ _ | with_reducible refine Grew.drew1 ?_ | with_reducible refine Grew.setCell ?_ gs _))⟩
set_option maxHeartbeats 1000000 in
theorem im_1_false (x : Nat) (hx : x < 4294967296) (rd s1 s2 : Int) (h1 : fN x 14 12 = 1) {W w : World} (hg : Grew W w) :
    Calls Try.prog 51 #[.int .u32 (x : Nat), iNew rd s1 s2, .bool false] w fun e w' => e = .returned (.tuple #[.agg #[.int .i64 8, .int .i64 1, .bool false, .int .i64 rd, .int .i64 s1, .int .i64 0, .int .u64 (fN x 25 20 : Nat)], .bool (((fN x 31 26 : Nat) : Int) == 0)]) ∧ Grew W w' := by
  have gs : W.heap.size ≤ w.heap.size := hg.size
  have h1' : ((fN x 14 12 : Nat) : Int) = 1 := by omega
  have H1 := Lib.hid h1'
  clear h1 h1'
  have b14_12 := fN_lt x 14 12 8 (by decide)
  have b31_26 := fN_lt x 31 26 64 (by decide)
  have b31_25 := fN_lt x 31 25 128 (by decide)
  have b25_20 := fN_lt x 25 20 64 (by decide)
  go_enter Try.func51, Try.ntmps51
  go_wp2_with fail
  refine (r3f x hx 14 12 (by decide) (by decide) (by decide) _).mono ?_
  rintro e w1 ⟨rfl, h1⟩
  obtain rfl := h1.symm
  rw [H1.out]
  go_wp2_with fail
  refine (r3f x hx 31 26 (by decide) (by decide) (by decide) _).mono ?_
  rintro e w1 ⟨rfl, h1⟩
  obtain rfl := h1.symm
  go_wp2_with fail
  refine (r3f x hx 25 20 (by decide) (by decide) (by decide) _).mono ?_
  rintro e w1 ⟨rfl, h1⟩
  obtain rfl := h1.symm
  go_wp2_with fail
  go_returns
  exact ⟨rfl, (by repeat (first | with_reducible exact hg | with_reducible refine Grew.alloc ?_ _ | with_reducible refine Grew.drewN ?_ _ | with_reducible refine Grew.drew1 ?_ | with_reducible refine Grew.setCell ?_ gs _))⟩
set_option maxHeartbeats 1000000 in
theorem im_5_false_y (x : Nat) (hx : x < 4294967296) (rd s1 s2 : Int) (h5 : fN x 14 12 = 5) (hs : fN x 31 26 = 16) {W w : World} (hg : Grew W w) :
    Calls Try.prog 51 #[.int .u32 (x : Nat), iNew rd s1 s2, .bool false] w fun e w' => e = .returned (.tuple #[.agg #[.int .i64 8, .int .i64 13, .bool false, .int .i64 rd, .int .i64 s1, .int .i64 0, .int .u64 (fN x 25 20 : Nat)], .bool true]) ∧ Grew W w' := by
  have gs : W.heap.size ≤ w.heap.size := hg.size
  have h5' : ((fN x 14 12 : Nat) : Int) = 5 := by omega
  have H5 := Lib.hid h5'
  clear h5 h5'
  have hs' : ((fN x 31 26 : Nat) : Int) = 16 := by omega
  have HS := Lib.hid hs'
  clear hs hs'
  have b14_12 := fN_lt x 14 12 8 (by decide)
  have b31_26 := fN_lt x 31 26 64 (by decide)
  have b31_25 := fN_lt x 31 25 128 (by decide)
  have b25_20 := fN_lt x 25 20 64 (by decide)
  go_enter Try.func51, Try.ntmps51
  go_wp2_with fail
  refine (r3f x hx 14 12 (by decide) (by decide) (by decide) _).mono ?_
  rintro e w1 ⟨rfl, h1⟩
  obtain rfl := h1.symm
  rw [H5.out]
  go_wp2_with fail
  refine (r3f x hx 31 26 (by decide) (by decide) (by decide) _).mono ?_
  rintro e w1 ⟨rfl, h1⟩
  obtain rfl := h1.symm
  rw [HS.out]
  go_wp2_with fail
  refine (r3f x hx 25 20 (by decide) (by decide) (by decide) _).mono ?_
  rintro e w1 ⟨rfl, h1⟩
  obtain rfl := h1.symm
  go_wp2_with fail
  go_returns
  exact ⟨rfl, (by repeat (first | with_reducible exact hg | with_reducible refine Grew.alloc ?_ _ | with_reducible refine Grew.drewN ?_ _ | with_reducible refine Grew.drew1 ?_ | with_reducible refine Grew.setCell ?_ gs _))⟩
set_option maxHeartbeats 1000000 in
theorem im_5_false_n (x : Nat) (hx : x < 4294967296) (rd s1 s2 : Int) (h5 : fN x 14 12 = 5) (hs : ¬ fN x 31 26 = 16) {W w : World} (hg : Grew W w) :
    Calls Try.prog 51 #[.int .u32 (x : Nat), iNew rd s1 s2, .bool false] w fun e w' => e = .returned (.tuple #[.agg #[.int .i64 8, .int .i64 5, .bool false, .int .i64 rd, .int .i64 s1, .int .i64 0, .int .u64 (fN x 25 20 : Nat)], .bool (((fN x 31 26 : Nat) : Int) == 0)]) ∧ Grew W w' := by
  have gs : W.heap.size ≤ w.heap.size := hg.size
  have h5' : ((fN x 14 12 : Nat) : Int) = 5 := by omega
  have H5 := Lib.hid h5'
  clear h5 h5'
  have hb : (((fN x 31 26 : Nat) : Int) == 16) = false := by rw [beq_eq_false_iff_ne]; omega
  clear hs
  have b14_12 := fN_lt x 14 12 8 (by decide)
  have b31_26 := fN_lt x 31 26 64 (by decide)
  have b31_25 := fN_lt x 31 25 128 (by decide)
  have b25_20 := fN_lt x 25 20 64 (by decide)
  go_enter Try.func51, Try.ntmps51
  go_wp2_with fail
  refine (r3f x hx 14 12 (by decide) (by decide) (by decide) _).mono ?_
  rintro e w1 ⟨rfl, h1⟩
  obtain rfl := h1.symm
  rw [H5.out]
  go_wp2_with fail
  refine (r3f x hx 31 26 (by decide) (by decide) (by decide) _).mono ?_
  rintro e w1 ⟨rfl, h1⟩
  obtain rfl := h1.symm
  go_wp2_with fail
  refine (r3f x hx 25 20 (by decide) (by decide) (by decide) _).mono ?_
  rintro e w1 ⟨rfl, h1⟩
  obtain rfl := h1.symm
  go_wp2_with fail
  go_returns
  exact ⟨rfl, (by repeat (first | with_reducible exact hg | with_reducible refine Grew.alloc ?_ _ | with_reducible refine Grew.drewN ?_ _ | with_reducible refine Grew.drew1 ?_ | with_reducible refine Grew.setCell ?_ gs _))⟩
set_option maxHeartbeats 1000000 in
theorem im_o_true (x : Nat) (hx : x < 4294967296) (rd s1 s2 : Int) (h1 : ¬ fN x 14 12 = 1) (h5 : ¬ fN x 14 12 = 5) {W w : World} (hg : Grew W w) :
    Calls Try.prog 51 #[.int .u32 (x : Nat), iNew rd s1 s2, .bool true] w fun e w' => e = .returned (.tuple #[.agg #[.int .i64 8, .int .i64 (fN x 14 12 : Nat), .bool true, .int .i64 rd, .int .i64 s1, .int .i64 0, .int .u64 (sextV (fN x 31 20 : Nat) 12)], .bool (((fN x 14 12 : Nat) : Int) == 0)]) ∧ Grew W w' := by
  have gs : W.heap.size ≤ w.heap.size := hg.size
  have b1 : (((fN x 14 12 : Nat) : Int) == 1) = false := by rw [beq_eq_false_iff_ne]; omega
  have b5 : (((fN x 14 12 : Nat) : Int) == 5) = false := by rw [beq_eq_false_iff_ne]; omega
  have n1 : (((fN x 14 12 : Nat) : Int) != 1) = true := by simp [bne, b1]
  have n5 : (((fN x 14 12 : Nat) : Int) != 5) = true := by simp [bne, b5]
  clear h1 h5
  have b14_12 := fN_lt x 14 12 8 (by decide)
  have b31_20 := fN_lt x 31 20 4096 (by decide)
  go_enter Try.func51, Try.ntmps51
  go_wp2_with fail
  refine (r3f x hx 14 12 (by decide) (by decide) (by decide) _).mono ?_
  rintro e w1 ⟨rfl, h1⟩
  obtain rfl := h1.symm
  go_wp2_with fail
  refine (r3f x hx 31 20 (by decide) (by decide) (by decide) _).mono ?_
  rintro e w1 ⟨rfl, h1⟩
  obtain rfl := h1.symm
  go_wp2_with fail
  refine (r3s _ (by omega) _ _).mono ?_
  rintro e w1 ⟨rfl, h1⟩
  obtain rfl := h1.symm
  go_wp2_with fail
  go_returns
  exact ⟨rfl, (by repeat (first | with_reducible exact hg | with_reducible refine Grew.alloc ?_ _ | with_reducible refine Grew.drewN ?_ _ | with_reducible refine Grew.drew1 ?_ | with_reducible refine Grew.setCell ?_ gs _))⟩
set_option maxHeartbeats 1000000 in
theorem im_1_true (x : Nat) (hx : x < 4294967296) (rd s1 s2 : Int) (h1 : fN x 14 12 = 1) {W w : World} (hg : Grew W w) :
    Calls Try.prog 51 #[.int .u32 (x : Nat), iNew rd s1 s2, .bool true] w fun e w' => e = .returned (.tuple #[.agg #[.int .i64 8, .int .i64 1, .bool true, .int .i64 rd, .int .i64 s1, .int .i64 0, .int .u64 (fN x 24 20 : Nat)], .bool (((fN x 31 25 : Nat) : Int) == 0)]) ∧ Grew W w' := by
  have gs : W.heap.size ≤ w.heap.size := hg.size
  have h1' : ((fN x 14 12 : Nat) : Int) = 1 := by omega
  have H1 := Lib.hid h1'
  clear h1 h1'
  have b14_12 := fN_lt x 14 12 8 (by decide)
  have b31_26 := fN_lt x 31 26 64 (by decide)
  have b31_25 := fN_lt x 31 25 128 (by decide)
  have b24_20 := fN_lt x 24 20 32 (by decide)
  go_enter Try.func51, Try.ntmps51
  go_wp2_with fail
  refine (r3f x hx 14 12 (by decide) (by decide) (by decide) _).mono ?_
  rintro e w1 ⟨rfl, h1⟩
  obtain rfl := h1.symm
  rw [H1.out]
  go_wp2_with fail
  refine (r3f x hx 31 26 (by decide) (by decide) (by decide) _).mono ?_
  rintro e w1 ⟨rfl, h1⟩
  obtain rfl := h1.symm
  go_wp2_with fail
  refine (r3f x hx 31 25 (by decide) (by decide) (by decide) _).mono ?_
  rintro e w1 ⟨rfl, h1⟩
  obtain rfl := h1.symm
  go_wp2_with fail
  refine (r3f x hx 24 20 (by decide) (by decide) (by decide) _).mono ?_
  rintro e w1 ⟨rfl, h1⟩
  obtain rfl := h1.symm
  go_wp2_with fail
  go_returns
  exact ⟨rfl, (by repeat (first | with_reducible exact hg | with_reducible refine Grew.alloc ?_ _ | with_reducible refine Grew.drewN ?_ _ | with_reducible refine Grew.drew1 ?_ | with_reducible refine Grew.setCell ?_ gs _))⟩
set_option maxHeartbeats 1000000 in
theorem im_5_true_y (x : Nat) (hx : x < 4294967296) (rd s1 s2 : Int) (h5 : fN x 14 12 = 5) (hs : fN x 31 25 = 32) {W w : World} (hg : Grew W w) :
    Calls Try.prog 51 #[.int .u32 (x : Nat), iNew rd s1 s2, .bool true] w fun e w' => e = .returned (.tuple #[.agg #[.int .i64 8, .int .i64 13, .bool true, .int .i64 rd, .int .i64 s1, .int .i64 0, .int .u64 (fN x 24 20 : Nat)], .bool true]) ∧ Grew W w' := by
  have gs : W.heap.size ≤ w.heap.size := hg.size
  have h5' : ((fN x 14 12 : Nat) : Int) = 5 := by omega
  have H5 := Lib.hid h5'
  clear h5 h5'
  have hs' : ((fN x 31 25 : Nat) : Int) = 32 := by omega
  have HS := Lib.hid hs'
  clear hs hs'
  have b14_12 := fN_lt x 14 12 8 (by decide)
  have b31_26 := fN_lt x 31 26 64 (by decide)
  have b31_25 := fN_lt x 31 25 128 (by decide)
  have b24_20 := fN_lt x 24 20 32 (by decide)
  go_enter Try.func51, Try.ntmps51
  go_wp2_with fail
  refine (r3f x hx 14 12 (by decide) (by decide) (by decide) _).mono ?_
  rintro e w1 ⟨rfl, h1⟩
  obtain rfl := h1.symm
  rw [H5.out]
  go_wp2_with fail
  refine (r3f x hx 31 26 (by decide) (by decide) (by decide) _).mono ?_
  rintro e w1 ⟨rfl, h1⟩
  obtain rfl := h1.symm
  go_wp2_with fail
  refine (r3f x hx 31 25 (by decide) (by decide) (by decide) _).mono ?_
  rintro e w1 ⟨rfl, h1⟩
  obtain rfl := h1.symm
  rw [HS.out]
  go_wp2_with fail
  refine (r3f x hx 24 20 (by decide) (by decide) (by decide) _).mono ?_
  rintro e w1 ⟨rfl, h1⟩
  obtain rfl := h1.symm
  go_wp2_with fail
  go_returns
  exact ⟨rfl, (by repeat (first | with_reducible exact hg | with_reducible refine Grew.alloc ?_ _ | with_reducible refine Grew.drewN ?_ _ | with_reducible refine Grew.drew1 ?_ | with_reducible refine Grew.setCell ?_ gs _))⟩
set_option maxHeartbeats 1000000 in
theorem im_5_true_n (x : Nat) (hx : x < 4294967296) (rd s1 s2 : Int) (h5 : fN x 14 12 = 5) (hs : ¬ fN x 31 25 = 32) {W w : World} (hg : Grew W w) :
    Calls Try.prog 51 #[.int .u32 (x : Nat), iNew rd s1 s2, .bool true] w fun e w' => e = .returned (.tuple #[.agg #[.int .i64 8, .int .i64 5, .bool true, .int .i64 rd, .int .i64 s1, .int .i64 0, .int .u64 (fN x 24 20 : Nat)], .bool (((fN x 31 25 : Nat) : Int) == 0)]) ∧ Grew W w' := by
  have gs : W.heap.size ≤ w.heap.size := hg.size
  have h5' : ((fN x 14 12 : Nat) : Int) = 5 := by omega
  have H5 := Lib.hid h5'
  clear h5 h5'
  have hb : (((fN x 31 25 : Nat) : Int) == 32) = false := by rw [beq_eq_false_iff_ne]; omega
  clear hs
  have b14_12 := fN_lt x 14 12 8 (by decide)
  have b31_26 := fN_lt x 31 26 64 (by decide)
  have b31_25 := fN_lt x 31 25 128 (by decide)
  have b24_20 := fN_lt x 24 20 32 (by decide)
  go_enter Try.func51, Try.ntmps51
  go_wp2_with fail
  refine (r3f x hx 14 12 (by decide) (by decide) (by decide) _).mono ?_
  rintro e w1 ⟨rfl, h1⟩
  obtain rfl := h1.symm
  rw [H5.out]
  go_wp2_with fail
  refine (r3f x hx 31 26 (by decide) (by decide) (by decide) _).mono ?_
  rintro e w1 ⟨rfl, h1⟩
  obtain rfl := h1.symm
  go_wp2_with fail
  refine (r3f x hx 31 25 (by decide) (by decide) (by decide) _).mono ?_
  rintro e w1 ⟨rfl, h1⟩
  obtain rfl := h1.symm
  go_wp2_with fail
  refine (r3f x hx 24 20 (by decide) (by decide) (by decide) _).mono ?_
  rintro e w1 ⟨rfl, h1⟩
  obtain rfl := h1.symm
  go_wp2_with fail
  go_returns
  exact ⟨rfl, (by repeat (first | with_reducible exact hg | with_reducible refine Grew.alloc ?_ _ | with_reducible refine Grew.drewN ?_ _ | with_reducible refine Grew.drew1 ?_ | with_reducible refine Grew.setCell ?_ gs _))⟩
end Go.Proofs.Ytgekmhcekkmdhaa
