/-
  Timers compared; a parameter that is a timer, opened; what must come at any rate (heads).
-/
import Derived.Test.YtgcfmijkggpemaaGreatLaw
import Derived.Test.YtgcfmijkggpemaaGreatClF
import Derived.Deep.Fields
import Derived.ChangeArms
set_option maxRecDepth 4000
set_option linter.unusedVariables false
set_option linter.unusedSimpArgs false
namespace Go.Proofs.YtgcfmijkggpemaaGreat
open Go.ChangeShapes Go.WideShapes Go.RowKit Go.Deep

theorem cl_eql (T C : Int) (S : Bool) (w : World) : (binOp .eql 27 (.agg #[.int .u64 T, .int .u64 C, .bool S]) (.agg #[.int .u64 T, .int .u64 C, .bool S])).run Tryz.prog w = .ok (.bool true) w := by
  have hu := Tryz.underlying27
  have hp : Tryz.prog.stoodInHeld 27 = false := by kernel_rfl
  rw [run_eql_struct, run_equalIn_agg w 9999 _ _ _ (by simp [Program.fieldsOf, hu]) hp]
  simp only [Program.fieldsOf, hu]
  simp [Op.eqFields, go_sem]

section
variable {H : Type} {enc : TypeId × Value → H} {w : World} {base : Nat} {spare : Nat → Bool} {held : Bool}
theorem open_clint {r : Reach} {b0 : Nat} {v : Value} {D : DataW H} {p : List MemPlace} (hv : Value.okWide Tryz.prog w r b0 27 v) (h : DataW.Trod enc Tryz.prog w base spare held 27 v D p) :
    ∃ (T C : Int) (S : Bool), v = .agg #[.int .u64 T, .int .u64 C, .bool S] ∧ (0 ≤ T ∧ T < 18446744073709551616) ∧ (0 ≤ C ∧ C < 18446744073709551616) := by
  have hs := Tryz.underlying27
  obtain ⟨⟨l⟩, rfl, hsz⟩ := okWide_struct hs hv
  rw [show Tryz.prog.cellsOf 27 = 3 by kernel_rfl] at hsz
  obtain ⟨fuel, hf⟩ := h
  obtain ⟨xs, n, _, _, _, hl, hg⟩ := DataW.trod_struct hs hf
  have k0 : Tryz.prog.cellsOf 25 = 1 := by kernel_rfl
  have k1 : Tryz.prog.cellsOf 4 = 1 := by kernel_rfl
  match l, hsz, xs, hl with
  | [c0, c1, c2], _, [y0, y1, y2], _ =>
    have g0 : DataW.trod enc Tryz.prog w base spare held n 25 [c0] = some y0 := by
      have := hg 0 _ rfl
      simpa [Value.cells, k0, k1] using this
    have g1 : DataW.trod enc Tryz.prog w base spare held n 25 [c1] = some y1 := by
      have := hg 1 _ rfl
      simpa [Value.cells, k0, k1] using this
    have g2 : DataW.trod enc Tryz.prog w base spare held n 4 [c2] = some y2 := by
      have := hg 2 _ rfl
      simpa [Value.cells, k0, k1] using this
    obtain ⟨T, e0, _, w0⟩ := DataW.trod_int Tryz.underlying25 g0
    obtain ⟨C, e1, _, w1⟩ := DataW.trod_int Tryz.underlying25 g1
    obtain ⟨S, e2, _⟩ := DataW.trod_bool Tryz.underlying4 g2
    obtain rfl : c0 = _ := by simpa using e0
    obtain rfl : c1 = _ := by simpa using e1
    obtain rfl : c2 = _ := by simpa using e2
    exact ⟨T, C, S, rfl, wf_u64 w0, wf_u64 w1⟩
end

theorem clHd_store {W w : World} (g : Grew W w) : Calls Tryz.prog 48 #[.agg #[.int .u64 0, .int .u64 7, .bool false], .int .u64 16388, .int .i64 4, .int .u64 1] w fun e w' => e = .returned (.tuple #[.agg #[.int .u64 0, .int .u64 4294967303, .bool false], .bool true]) ∧ Grew W w' := by
  have := clStore_yes (T := 0) (C := 7) (by omega) (by omega) false (off := 16388) (size := 4) (p := 16384) (l := 32) (n := 32) 1 (by omega) (by unfold Spot; omega) g
  have e1 : putV (regV 0 7 false 16384) 1 32 32 = 4294967303 := by decide
  rw [e1] at this
  exact this
theorem clHd_load {W w : World} (g : Grew W w) : Calls Tryz.prog 46 #[.agg #[.int .u64 0, .int .u64 4294967303, .bool false], .int .u64 16384, .int .i64 8] w fun e w' => e = .returned (.tuple #[.int .u64 4294967303, .bool true]) ∧ Grew W w' := by
  have := clLoad_yes (T := 0) (C := 4294967303) (by omega) (by omega) false (off := 16384) (size := 8) (p := 16384) (l := 0) (n := 64) (by unfold Spot; omega) g
  have e1 : fieldV (regV 0 4294967303 false 16384) (0 + 64 - 1) 0 = 4294967303 := by
    rw [show regV 0 4294967303 false 16384 = 4294967303 from rfl]
    exact fieldV_whole _ (by omega)
  rw [e1] at this
  exact this
theorem clHd_none {W w : World} (g : Grew W w) : Calls Tryz.prog 46 #[.agg #[.int .u64 0, .int .u64 4294967303, .bool false], .int .u64 16385, .int .i64 4] w fun e w' => e = .returned (.tuple #[.int .u64 0, .bool false]) ∧ Grew W w' :=
  clLoad_no 0 4294967303 false (by omega) (by omega) (by unfold NoSpot; omega) g

end Go.Proofs.YtgcfmijkggpemaaGreat
