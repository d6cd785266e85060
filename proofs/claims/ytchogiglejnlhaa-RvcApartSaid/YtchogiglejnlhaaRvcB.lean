/-
  Contracts of package rvc: parts of a short instruction, and the forms of instructions.
-/
import Derived.Test.YtchogiglejnlhaaRvcA
namespace Go.Proofs.Ytchogiglejnlhaa
open Go.RowKit

theorem bsext (x : Nat) (hx : x < 18446744073709551616) (n : Int) (h1 : 1 ≤ n) (h2 : n ≤ 63) {W w : World} (hg : Grew W w) :
    Calls Try.prog 51 #[.int .u64 x, .int .i64 n] w fun e w' => e = .returned (.int .u64 (sxN x n)) ∧ Grew W w' :=
  (sext_c (x : Int) n (by omega) (by omega) w).mono fun _ _ ⟨a, b⟩ => ⟨by rw [a, sxN_sext x n h1 h2], b ▸ hg⟩
theorem rd_c (h : Nat) (hh : h < 65536) {W w : World} (hg : Grew W w) :
    Calls Try.prog 48 #[.int .u16 h] w fun e w' => e = .returned (.int .u64 (rdN h : Nat)) ∧ Grew W w' := by
  go_enter Try.func48, Try.ntmps48
  go_wp2_with fail
  refine (hfield h hh 11 7 (by decide) (by decide) (by decide) hg).mono ?_
  rintro e w1 ⟨rfl, g1⟩
  go_wp2_with fail
  go_ret
  exact ⟨ret_u64 (rfl), g1⟩
theorem rs2_c (h : Nat) (hh : h < 65536) {W w : World} (hg : Grew W w) :
    Calls Try.prog 57 #[.int .u16 h] w fun e w' => e = .returned (.int .u64 (rs2N h : Nat)) ∧ Grew W w' := by
  go_enter Try.func57, Try.ntmps57
  go_wp2_with fail
  refine (hfield h hh 6 2 (by decide) (by decide) (by decide) hg).mono ?_
  rintro e w1 ⟨rfl, g1⟩
  go_wp2_with fail
  go_ret
  exact ⟨ret_u64 (rfl), g1⟩
theorem up_c (h : Nat) (hh : h < 65536) {W w : World} (hg : Grew W w) :
    Calls Try.prog 44 #[.int .u16 h] w fun e w' => e = .returned (.int .u64 (upN h : Nat)) ∧ Grew W w' := by
  have b := fN_lt h 9 7 8 (by decide)
  go_enter Try.func44, Try.ntmps44
  go_wp2_with fail
  refine (hfield h hh 9 7 (by decide) (by decide) (by decide) hg).mono ?_
  rintro e w1 ⟨rfl, g1⟩
  go_wp2_with fail
  go_ret
  exact ⟨ret_u64 (by unfold upN; omega), g1⟩
theorem lo_c (h : Nat) (hh : h < 65536) {W w : World} (hg : Grew W w) :
    Calls Try.prog 43 #[.int .u16 h] w fun e w' => e = .returned (.int .u64 (loN h : Nat)) ∧ Grew W w' := by
  have b := fN_lt h 4 2 8 (by decide)
  go_enter Try.func43, Try.ntmps43
  go_wp2_with fail
  refine (hfield h hh 4 2 (by decide) (by decide) (by decide) hg).mono ?_
  rintro e w1 ⟨rfl, g1⟩
  go_wp2_with fail
  go_ret
  exact ⟨ret_u64 (by unfold loN; omega), g1⟩
theorem six_c (h : Nat) (hh : h < 65536) {W w : World} (hg : Grew W w) :
    Calls Try.prog 50 #[.int .u16 h] w fun e w' => e = .returned (.int .u64 (sixN h : Nat)) ∧ Grew W w' := by
  have o := pairN_or h 12 [5] 6 [4, 3, 2, 1, 0] (Places.of _ (by decide)) (Places.of _ (by decide))
  go_enter Try.func50, Try.ntmps50
  go_wp2_with fail
  refine (gather_l h hh 12 [5] (by decide) (by decide) (by decide) _ rfl _ rfl hg _ rfl _).mono ?_
  rintro e w1 ⟨rfl, g1⟩
  go_wp2_with fail
  refine (gather_l h hh 6 [4, 3, 2, 1, 0] (by decide) (by decide) (by decide) _ rfl _ rfl g1 _ rfl _).mono ?_
  rintro e w2 ⟨rfl, g2⟩
  go_wp2_with fail
  go_ret
  exact ⟨ret_u64 (rfl), g2⟩
theorem word_c (h : Nat) (hh : h < 65536) {W w : World} (hg : Grew W w) :
    Calls Try.prog 45 #[.int .u16 h] w fun e w' => e = .returned (.int .u64 (wordN h : Nat)) ∧ Grew W w' := by
  have o := pairN_or h 12 [5, 4, 3] 6 [2, 6] (Places.of _ (by decide)) (Places.of _ (by decide))
  go_enter Try.func45, Try.ntmps45
  go_wp2_with fail
  refine (gather_l h hh 12 [5, 4, 3] (by decide) (by decide) (by decide) _ rfl _ rfl hg _ rfl _).mono ?_
  rintro e w1 ⟨rfl, g1⟩
  go_wp2_with fail
  refine (gather_l h hh 6 [2, 6] (by decide) (by decide) (by decide) _ rfl _ rfl g1 _ rfl _).mono ?_
  rintro e w2 ⟨rfl, g2⟩
  go_wp2_with fail
  go_ret
  exact ⟨ret_u64 (rfl), g2⟩
theorem double_c (h : Nat) (hh : h < 65536) {W w : World} (hg : Grew W w) :
    Calls Try.prog 46 #[.int .u16 h] w fun e w' => e = .returned (.int .u64 (doubleN h : Nat)) ∧ Grew W w' := by
  have o := pairN_or h 12 [5, 4, 3] 6 [7, 6] (Places.of _ (by decide)) (Places.of _ (by decide))
  go_enter Try.func46, Try.ntmps46
  go_wp2_with fail
  refine (gather_l h hh 12 [5, 4, 3] (by decide) (by decide) (by decide) _ rfl _ rfl hg _ rfl _).mono ?_
  rintro e w1 ⟨rfl, g1⟩
  go_wp2_with fail
  refine (gather_l h hh 6 [7, 6] (by decide) (by decide) (by decide) _ rfl _ rfl g1 _ rfl _).mono ?_
  rintro e w2 ⟨rfl, g2⟩
  go_wp2_with fail
  go_ret
  exact ⟨ret_u64 (rfl), g2⟩
theorem ssix_c (h : Nat) (hh : h < 65536) {W w : World} (hg : Grew W w) :
    Calls Try.prog 49 #[.int .u16 h] w fun e w' => e = .returned (.int .u64 (ssixN h : Nat)) ∧ Grew W w' := by
  go_enter Try.func49, Try.ntmps49
  go_wp2_with fail
  refine (six_c h hh hg).mono ?_
  rintro e w1 ⟨rfl, g1⟩
  go_wp2_with fail
  refine (bsext (sixN h) (sixN_lt h) 6 (by decide) (by decide) g1).mono ?_
  rintro e w2 ⟨rfl, g2⟩
  go_wp2_with fail
  go_ret
  exact ⟨ret_u64 (rfl), g2⟩
theorem registers_c (op f g rd rs1 rs2 : Nat) (h_op : op < 128) (h_f : f < 8) (h_g : g < 128) (h_rd : rd < 32) (h_rs1 : rs1 < 32) (h_rs2 : rs2 < 32)  {W w : World} (hg : Grew W w) :
    Calls Try.prog 58 #[.int .u64 op, .int .u64 f, .int .u64 g, .int .u64 rd, .int .u64 rs1, .int .u64 rs2] w fun e w' => e = .returned (.int .u32 (rgN op f g rd rs1 rs2 : Nat)) ∧ Grew W w' := by
  go_enter Try.func58, Try.ntmps58
  go_wp2_with fail
  go_ret
  refine ⟨ret_u32 ?_, hg⟩
  unfold rgN
  simp (disch := (repeat (first | omega | apply or64_lt | apply or32_lt))) only [mulc, or64, or64_lit, wrap64c, mod32]
theorem store_c (f rs1 rs2 imm : Nat) (h_f : f < 8) (h_rs1 : rs1 < 32) (h_rs2 : rs2 < 32) (hi : imm < 18446744073709551616)  {W w : World} (hg : Grew W w) :
    Calls Try.prog 47 #[.int .u64 f, .int .u64 rs1, .int .u64 rs2, .int .u64 imm] w fun e w' => e = .returned (.int .u32 (stN f rs1 rs2 imm : Nat)) ∧ Grew W w' := by
  have b0 := fN_lt imm 11 5 128 (by decide)
  have b1 := fN_lt imm 4 0 32 (by decide)
  go_enter Try.func47, Try.ntmps47
  go_wp2_with fail
  refine (bfield imm hi 11 5 (by decide) (by decide) (by decide) hg).mono ?_
  rintro e w1 ⟨rfl, g1⟩
  go_wp2_with fail
  refine (bfield imm hi 4 0 (by decide) (by decide) (by decide) g1).mono ?_
  rintro e w2 ⟨rfl, g2⟩
  go_wp2_with fail
  go_ret
  refine ⟨ret_u32 ?_, g2⟩
  unfold stN
  simp (disch := (repeat (first | omega | apply or64_lt | apply or32_lt))) only [mulc, or64, or64_lit, wrap64c, mod32]
theorem lui_c (rd imm : Nat) (h_rd : rd < 32) (hi : imm < 18446744073709551616)  {W w : World} (hg : Grew W w) :
    Calls Try.prog 52 #[.int .u64 rd, .int .u64 imm] w fun e w' => e = .returned (.int .u32 (luN rd imm : Nat)) ∧ Grew W w' := by
  have b0 := fN_lt imm 31 12 1048576 (by decide)
  go_enter Try.func52, Try.ntmps52
  go_wp2_with fail
  refine (bfield imm hi 31 12 (by decide) (by decide) (by decide) hg).mono ?_
  rintro e w1 ⟨rfl, g1⟩
  go_wp2_with fail
  go_ret
  refine ⟨ret_u32 ?_, g1⟩
  unfold luN
  simp (disch := (repeat (first | omega | apply or64_lt | apply or32_lt))) only [mulc, or64, or64_lit, wrap64c, mod32]
theorem jal_c (rd imm : Nat) (h_rd : rd < 32) (hi : imm < 18446744073709551616)  {W w : World} (hg : Grew W w) :
    Calls Try.prog 54 #[.int .u64 rd, .int .u64 imm] w fun e w' => e = .returned (.int .u32 (jlN rd imm : Nat)) ∧ Grew W w' := by
  have b0 := fN_lt imm 20 20 2 (by decide)
  have b1 := fN_lt imm 10 1 1024 (by decide)
  have b2 := fN_lt imm 11 11 2 (by decide)
  have b3 := fN_lt imm 19 12 256 (by decide)
  have bp : fN imm 20 20 * 524288 ||| fN imm 10 1 * 512 ||| fN imm 11 11 * 256 ||| fN imm 19 12 < 1048576 := Nat.or_lt_two_pow (n := 20) (Nat.or_lt_two_pow (n := 20) (Nat.or_lt_two_pow (n := 20) (by omega) (by omega)) (by omega)) (by omega)
  go_enter Try.func54, Try.ntmps54
  go_wp2_with fail
  refine (bfield imm hi 20 20 (by decide) (by decide) (by decide) hg).mono ?_
  rintro e w1 ⟨rfl, g1⟩
  go_wp2_with fail
  refine (bfield imm hi 10 1 (by decide) (by decide) (by decide) g1).mono ?_
  rintro e w2 ⟨rfl, g2⟩
  go_wp2_with fail
  refine (bfield imm hi 11 11 (by decide) (by decide) (by decide) g2).mono ?_
  rintro e w3 ⟨rfl, g3⟩
  go_wp2_with fail
  refine (bfield imm hi 19 12 (by decide) (by decide) (by decide) g3).mono ?_
  rintro e w4 ⟨rfl, g4⟩
  go_wp2_with fail
  go_ret
  refine ⟨ret_u32 ?_, g4⟩
  unfold jlN
  simp (disch := (repeat (first | omega | apply or64_lt | apply or32_lt))) only [mulc, or64, or64_lit, wrap64c, mod32]
theorem branch_f (f rs1 rs2 imm : Nat) (h_f : f < 8) (h_rs1 : rs1 < 32) (h_rs2 : rs2 < 32) (hi : imm < 18446744073709551616)  {W w : World} (hg : Grew W w) :
    Calls Try.prog 55 #[.int .u64 f, .int .u64 rs1, .int .u64 rs2, .int .u64 imm] w fun e w' => e = .returned (.int .u32 (brN f rs1 rs2 imm : Nat)) ∧ Grew W w' := by
  have b0 := fN_lt imm 12 12 2 (by decide)
  have b1 := fN_lt imm 10 5 64 (by decide)
  have b2 := fN_lt imm 4 1 16 (by decide)
  have b3 := fN_lt imm 11 11 2 (by decide)
  have bp : fN imm 12 12 * 64 ||| fN imm 10 5 < 128 := Nat.or_lt_two_pow (n := 7) (by omega) (by omega)
  have bq : fN imm 4 1 * 2 ||| fN imm 11 11 < 32 := Nat.or_lt_two_pow (n := 5) (by omega) (by omega)
  go_enter Try.func55, Try.ntmps55
  go_wp2_with fail
  refine (bfield imm hi 12 12 (by decide) (by decide) (by decide) hg).mono ?_
  rintro e w1 ⟨rfl, g1⟩
  go_wp2_with fail
  refine (bfield imm hi 10 5 (by decide) (by decide) (by decide) g1).mono ?_
  rintro e w2 ⟨rfl, g2⟩
  go_wp2_with fail
  refine (bfield imm hi 4 1 (by decide) (by decide) (by decide) g2).mono ?_
  rintro e w3 ⟨rfl, g3⟩
  go_wp2_with fail
  refine (bfield imm hi 11 11 (by decide) (by decide) (by decide) g3).mono ?_
  rintro e w4 ⟨rfl, g4⟩
  go_wp2_with fail
  go_ret
  refine ⟨ret_u32 ?_, g4⟩
  unfold brN
  simp (disch := (repeat (first | omega | apply or64_lt | apply or32_lt))) only [mulc, or64, or64_lit, wrap64c, mod32]
end Go.Proofs.Ytchogiglejnlhaa
