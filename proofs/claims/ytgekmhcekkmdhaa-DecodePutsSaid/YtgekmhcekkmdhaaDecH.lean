/-
  Contracts: what must come at any rate ('heads' of the statements about package decode).
-/
import Derived.Test.YtgekmhcekkmdhaaDecG
set_option linter.unusedVariables false
set_option linter.unusedSimpArgs false
namespace Go.Proofs.Ytgekmhcekkmdhaa
open Go.RowKit

theorem n1 : noB (kOf 5243027) = false := by kernel_rfl
theorem d1 : decI 5243027 = ⟨8, 0, false, 1, 0, 0, 5⟩ := by kernel_rfl
theorem n0 : noB (kOf 0) = true := by kernel_rfl
theorem n3 : noB (kOf 4292866159) = false := by kernel_rfl
theorem d3 : decI 4292866159 = ⟨3, 0, false, 0, 0, 0, 18446744073709551612⟩ := by kernel_rfl
theorem e1 : encB 8 0 false 1 0 0 5 = true := by kernel_rfl
theorem v1 : encN 8 0 false 1 0 0 5 = 5243027 := by kernel_rfl
theorem e0 : encB 0 0 false 0 0 0 0 = false := by kernel_rfl
theorem decode_lit (x : Nat) (hx : x < 4294967296) (i : Ins) (b : Bool) (hi : (if noB (kOf x) then noI else decI x) = i) (hb : (!noB (kOf x)) = b) {W w : World} (hg : Grew W w) :
    Calls Try.prog 11 #[.int .u32 (x : Nat)] w fun e w' => e = .returned (.tuple #[iV i, .bool b]) ∧ Grew w w' ∧ Grew W w' :=
  (decode_c x hx w).mono fun _ _ ⟨a, g⟩ => ⟨by rw [a, hi, hb], g, hg.trans g⟩
theorem heads_c {W w : World} (hg : Grew W w) : Calls Try.prog 13 #[] w fun e w' => e = .returned (.bool true) ∧ Grew W w' := by
  have hD1 := fun w => @decode_lit 5243027 (by decide) ⟨8, 0, false, 1, 0, 0, 5⟩ true (by rw [n1, d1]; rfl) (by rw [n1]; rfl) w w (Grew.refl w)
  have hD0 := fun w => @decode_lit 0 (by decide) ⟨0, 0, false, 0, 0, 0, 0⟩ false (by rw [n0]; rfl) (by rw [n0]; rfl) w w (Grew.refl w)
  have hD3 := fun w => @decode_lit 4292866159 (by decide) ⟨3, 0, false, 0, 0, 0, 18446744073709551612⟩ true (by rw [n3, d3]; rfl) (by rw [n3]; rfl) w w (Grew.refl w)
  have hE1 : ∀ w : World, Calls Try.prog 14 #[.agg #[.int .i64 8, .int .i64 0, .bool false, .int .i64 1, .int .i64 0, .int .i64 0, .int .u64 5]] w fun e w' => e = .returned (.tuple #[.int .u32 5243027, .bool true]) ∧ Grew w w' := fun w => by
    have := encode_c 8 0 1 0 0 false 5 (by decide) (by decide) (by decide) (by decide) (by decide) (by decide) w
    rw [e1, v1] at this
    exact this
  have hE0 : ∀ w : World, Calls Try.prog 14 #[.agg #[.int .i64 0, .int .i64 0, .bool false, .int .i64 0, .int .i64 0, .int .i64 0, .int .u64 0]] w fun e w' => e = .returned (.tuple #[.int .u32 0, .bool false]) ∧ Grew w w' := fun w => by
    have := encode_c 0 0 0 0 0 false 0 (by decide) (by decide) (by decide) (by decide) (by decide) (by decide) w
    rw [e0] at this
    exact this
  go_enter Try.func13, Try.ntmps13
  go_wp2_with fail
  refine (hD1 _).mono ?_
  rintro e w1 ⟨rfl, g1, _⟩
  have k1 := Blk.new w1 #[.int .i64 8, .int .i64 0, .bool false, .int .i64 1, .int .i64 0, .int .i64 0, .int .u64 5] 26 w1.heap.size rfl
  have G1 := (hg.trans g1).alloc (.cells #[.int .i64 8, .int .i64 0, .bool false, .int .i64 1, .int .i64 0, .int .i64 0, .int .u64 5] 26)
  go_upto_region 2 with fail
  generalize w1.alloc (.cells #[.int .i64 8, .int .i64 0, .bool false, .int .i64 1, .int .i64 0, .int .i64 0, .int .u64 5] 26) = wa at *
  generalize w1.heap.size = p1 at *
  go_wp2_with fail
  refine (hD0 _).mono ?_
  rintro e w2 ⟨rfl, g2, _⟩
  have k2 := (k1.grew g2).alloc (.cells #[.int .i64 0, .int .i64 0, .bool false, .int .i64 0, .int .i64 0, .int .i64 0, .int .u64 0] 26)
  have G2 := (G1.trans g2).alloc (.cells #[.int .i64 0, .int .i64 0, .bool false, .int .i64 0, .int .i64 0, .int .i64 0, .int .u64 0] 26)
  clear k1 G1
  go_upto_region 3 with fail
  generalize w2.alloc (.cells #[.int .i64 0, .int .i64 0, .bool false, .int .i64 0, .int .i64 0, .int .i64 0, .int .u64 0] 26) = wb at *
  have a0 : wb.cell? ⟨p1, 0, none⟩ = some (.int .i64 8) := k2.cell 0
  have a1 : wb.cell? ⟨p1, 1, none⟩ = some (.int .i64 0) := k2.cell 1
  have a2 : wb.cell? ⟨p1, 2, none⟩ = some (.bool false) := k2.cell 2
  have a3 : wb.cell? ⟨p1, 3, none⟩ = some (.int .i64 1) := k2.cell 3
  have a4 : wb.cell? ⟨p1, 4, none⟩ = some (.int .i64 0) := k2.cell 4
  have a5 : wb.cell? ⟨p1, 5, none⟩ = some (.int .i64 0) := k2.cell 5
  have a6 : wb.cell? ⟨p1, 6, none⟩ = some (.int .u64 5) := k2.cell 6
  go_wp2_with fail
  refine (hE1 _).mono ?_
  rintro e w3 ⟨rfl, g3⟩
  have k3 := k2.grew g3
  have G3 := G2.trans g3
  clear a0 a1 a2 a3 a4 a5 a6 k2 G2
  go_wp2_with fail
  refine (hD3 _).mono ?_
  rintro e w4 ⟨rfl, g4, _⟩
  have k4 := (k3.grew g4).alloc (.cells #[.int .i64 3, .int .i64 0, .bool false, .int .i64 0, .int .i64 0, .int .i64 0, .int .u64 18446744073709551612] 26)
  have k7 := Blk.new w4 #[.int .i64 3, .int .i64 0, .bool false, .int .i64 0, .int .i64 0, .int .i64 0, .int .u64 18446744073709551612] 26 w4.heap.size rfl
  have G4 := (G3.trans g4).alloc (.cells #[.int .i64 3, .int .i64 0, .bool false, .int .i64 0, .int .i64 0, .int .i64 0, .int .u64 18446744073709551612] 26)
  clear k3 G3
  go_upto_region 5 with fail
  generalize w4.alloc (.cells #[.int .i64 3, .int .i64 0, .bool false, .int .i64 0, .int .i64 0, .int .i64 0, .int .u64 18446744073709551612] 26) = wc at *
  generalize w4.heap.size = p7 at *
  go_wp2_with fail
  refine (hE0 _).mono ?_
  rintro e w5 ⟨rfl, g5⟩
  have k5 := k4.grew g5
  have k8 := k7.grew g5
  have G5 := G4.trans g5
  clear k4 k7 G4
  have a0 : w5.cell? ⟨p1, 0, none⟩ = some (.int .i64 8) := k5.cell 0
  have a3 : w5.cell? ⟨p1, 3, none⟩ = some (.int .i64 1) := k5.cell 3
  have a6 : w5.cell? ⟨p1, 6, none⟩ = some (.int .u64 5) := k5.cell 6
  have b0 : w5.cell? ⟨p7, 0, none⟩ = some (.int .i64 3) := k8.cell 0
  have b6 : w5.cell? ⟨p7, 6, none⟩ = some (.int .u64 18446744073709551612) := k8.cell 6
  clear k5 k8
  go_wp2_with fail
  go_ret
  exact ⟨rfl, G5⟩
end Go.Proofs.Ytgekmhcekkmdhaa
