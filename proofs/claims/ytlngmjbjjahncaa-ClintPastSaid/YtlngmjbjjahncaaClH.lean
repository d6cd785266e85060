/-
  Timers compared; a parameter that is a timer, opened; what must come at any rate (heads).
-/
import Derived.Test.YtlngmjbjjahncaaLaw
import Derived.Test.YtlngmjbjjahncaaClF
import Derived.Deep.Fields
import Derived.ChangeArms
set_option linter.unusedVariables false
set_option linter.unusedSimpArgs false
namespace Go.Proofs.Ytlngmjbjjahncaa
open Go.ChangeShapes Go.WideShapes Go.RowKit Go.Deep

theorem cl_eql (T C : Int) (S : Bool) (w : World) : (binOp .eql 24 (.agg #[.int .u64 T, .int .u64 C, .bool S]) (.agg #[.int .u64 T, .int .u64 C, .bool S])).run Try.prog w = .ok (.bool true) w := by
  have hu := Try.underlying24
  have hp : Try.prog.stoodInHeld 24 = false := by kernel_rfl
  rw [run_eql_struct, run_equalIn_agg w 9999 _ _ _ (by simp [Program.fieldsOf, hu]) hp]
  simp only [Program.fieldsOf, hu]
  simp [Op.eqFields, go_sem]

section
variable {H : Type} {enc : TypeId × Value → H} {w : World} {base : Nat} {spare : Nat → Bool} {held : Bool}
theorem open_clint {r : Reach} {b0 : Nat} {v : Value} {D : DataW H} {p : List MemPlace} (hv : Value.okWide Try.prog w r b0 24 v) (h : DataW.Trod enc Try.prog w base spare held 24 v D p) :
    ∃ (T C : Int) (S : Bool), v = .agg #[.int .u64 T, .int .u64 C, .bool S] ∧ (0 ≤ T ∧ T < 18446744073709551616) ∧ (0 ≤ C ∧ C < 18446744073709551616) := by
  have hs := Try.underlying24
  obtain ⟨⟨l⟩, rfl, hsz⟩ := okWide_struct hs hv
  rw [show Try.prog.cellsOf 24 = 3 by kernel_rfl] at hsz
  obtain ⟨fuel, hf⟩ := h
  obtain ⟨xs, n, _, _, _, hl, hg⟩ := DataW.trod_struct hs hf
  have k0 : Try.prog.cellsOf 22 = 1 := by kernel_rfl
  have k1 : Try.prog.cellsOf 4 = 1 := by kernel_rfl
  match l, hsz, xs, hl with
  | [c0, c1, c2], _, [y0, y1, y2], _ =>
    have g0 : DataW.trod enc Try.prog w base spare held n 22 [c0] = some y0 := by
      have := hg 0 _ rfl
      simpa [Value.cells, k0, k1] using this
    have g1 : DataW.trod enc Try.prog w base spare held n 22 [c1] = some y1 := by
      have := hg 1 _ rfl
      simpa [Value.cells, k0, k1] using this
    have g2 : DataW.trod enc Try.prog w base spare held n 4 [c2] = some y2 := by
      have := hg 2 _ rfl
      simpa [Value.cells, k0, k1] using this
    obtain ⟨T, e0, _, w0⟩ := DataW.trod_int Try.underlying22 g0
    obtain ⟨C, e1, _, w1⟩ := DataW.trod_int Try.underlying22 g1
    obtain ⟨S, e2, _⟩ := DataW.trod_bool Try.underlying4 g2
    obtain rfl : c0 = _ := by simpa using e0
    obtain rfl : c1 = _ := by simpa using e1
    obtain rfl : c2 = _ := by simpa using e2
    exact ⟨T, C, S, rfl, wf_u64 w0, wf_u64 w1⟩
end

theorem hd_store {W w : World} (g : Grew W w) : Calls Try.prog 8 #[.agg #[.int .u64 0, .int .u64 7, .bool false], .int .u64 16388, .int .i64 4, .int .u64 1] w fun e w' => e = .returned (.tuple #[.agg #[.int .u64 0, .int .u64 4294967303, .bool false], .bool true]) ∧ Grew W w' := by
  have := store_yes (T := 0) (C := 7) (by omega) (by omega) false (off := 16388) (size := 4) (p := 16384) (l := 32) (n := 32) 1 (by omega) (by unfold Spot; omega) g
  have e1 : putV (regV 0 7 false 16384) 1 32 32 = 4294967303 := by decide
  rw [e1] at this
  exact this
theorem hd_load {W w : World} (g : Grew W w) : Calls Try.prog 6 #[.agg #[.int .u64 0, .int .u64 4294967303, .bool false], .int .u64 16384, .int .i64 8] w fun e w' => e = .returned (.tuple #[.int .u64 4294967303, .bool true]) ∧ Grew W w' := by
  have := load_yes (T := 0) (C := 4294967303) (by omega) (by omega) false (off := 16384) (size := 8) (p := 16384) (l := 0) (n := 64) (by unfold Spot; omega) g
  have e1 : fieldV (regV 0 4294967303 false 16384) (0 + 64 - 1) 0 = 4294967303 := by
    rw [show regV 0 4294967303 false 16384 = 4294967303 from rfl]
    exact fieldV_whole _ (by omega)
  rw [e1] at this
  exact this
theorem hd_none {W w : World} (g : Grew W w) : Calls Try.prog 6 #[.agg #[.int .u64 0, .int .u64 4294967303, .bool false], .int .u64 16385, .int .i64 4] w fun e w' => e = .returned (.tuple #[.int .u64 0, .bool false]) ∧ Grew W w' :=
  load_no 0 4294967303 false (by omega) (by omega) (by unfold NoSpot; omega) g

set_option maxHeartbeats 1000000 in
theorem heads_c {W w : World} (g : Grew W w) : Calls Try.prog 14 #[] w fun e w' => e = .returned (.bool true) ∧ Grew W w' := by
  go_enter Try.func14, Try.ntmps14
  go_upto_region 2 with (go_at_call 8; refine (hd_store g).mono ?_; rintro e w1 ⟨rfl, g1⟩)
  have kb : Blk (w1.alloc (.cells #[.int .u64 0, .int .u64 4294967303, .bool false] 24)) w1.heap.size #[.int .u64 0, .int .u64 4294967303, .bool false] 24 := Blk.new _ _ _ _ rfl
  have g2 : Grew W (w1.alloc (.cells #[.int .u64 0, .int .u64 4294967303, .bool false] 24)) := g1.alloc _
  generalize (w1.alloc (.cells #[.int .u64 0, .int .u64 4294967303, .bool false] 24)) = w2 at *
  generalize w1.heap.size = D at *
  have c0 := kb.cell 0
  have c1 := kb.cell 1
  have c2 := kb.cell 2
  go_upto_region 3 with (go_at_call 6; refine (hd_load (Grew.refl w2)).mono ?_; rintro e w3 ⟨rfl, g3⟩)
  have kb3 := kb.grew g3
  have g4 := g2.trans g3
  clear c0 c1 c2
  have c0 := kb3.cell 0
  have c1 := kb3.cell 1
  have c2 := kb3.cell 2
  go_upto_region 4 with (go_at_call 6; refine (hd_none (Grew.refl w3)).mono ?_; rintro e w5 ⟨rfl, g5⟩)
  have kb5 := kb3.grew g5
  have g6 := g4.trans g5
  clear c0 c1 c2
  go_upto_region 5 with (go_at_call 10; refine (lines_c 5 5 true (Grew.refl w5)).mono ?_; rintro e w7 ⟨rfl, g7⟩)
  have kb7 := kb5.grew g7
  have g8 := g6.trans g7
  have c0 := kb7.cell 0
  have c1 := kb7.cell 1
  have c2 := kb7.cell 2
  have e1 : IntKind.u64.wrap (0 + 1) = 1 := by decide
  have ht := fun (W w : World) (g : Grew W w) => tick_c 0 4294967303 false g
  rw [e1] at ht
  have HT := Lib.hid ht
  clear ht e1
  have hfd : ∀ w : World, (Instr.field 24 (.agg #[.int .u64 1, .int .u64 4294967303, .bool false]) 0).run Try.prog w = .ok (.int .u64 1) w := fun _ => by kernel_rfl
  go_wp2_with (go_at_call 12; refine (HT.out _ _ (Grew.refl w7)).mono ?_; rintro e w9 ⟨rfl, g9⟩)
  go_ret
  exact ⟨rfl, g8.trans g9⟩
end Go.Proofs.Ytlngmjbjjahncaa
