/-
  A parameter that is an instruction, opened: seven plain fields.
-/
import Derived.Test.YtgekmhcekkmdhaaLaw
import Derived.Deep.Fields
import Derived.ChangeArms
set_option linter.unusedVariables false
set_option linter.unusedSimpArgs false
namespace Go.Proofs.Ytgekmhcekkmdhaa
open Go.ChangeShapes Go.WideShapes Go.RowKit Go.Deep

section
variable {H : Type} {enc : TypeId × Value → H} {w : World} {base : Nat} {spare : Nat → Bool} {held : Bool}
theorem open_ins {r : Reach} {b0 : Nat} {v : Value} {D : DataW H} {p : List MemPlace} (hv : Value.okWide Try.prog w r b0 26 v) (h : DataW.Trod enc Try.prog w base spare held 26 v D p) :
    ∃ (c f r1 r2 r3 m : Int) (d : Bool), v = .agg #[.int .i64 c, .int .i64 f, .bool d, .int .i64 r1, .int .i64 r2, .int .i64 r3, .int .u64 m] ∧ (-9223372036854775808 ≤ c ∧ c ≤ 9223372036854775807) ∧ (-9223372036854775808 ≤ f ∧ f ≤ 9223372036854775807) ∧
      (-9223372036854775808 ≤ r1 ∧ r1 ≤ 9223372036854775807) ∧ (-9223372036854775808 ≤ r2 ∧ r2 ≤ 9223372036854775807) ∧ (-9223372036854775808 ≤ r3 ∧ r3 ≤ 9223372036854775807) ∧ 0 ≤ m ∧ m < 18446744073709551616 := by
  have hs := Try.underlying26
  obtain ⟨⟨l⟩, rfl, hsz⟩ := okWide_struct hs hv
  rw [show Try.prog.cellsOf 26 = 7 by kernel_rfl] at hsz
  obtain ⟨fuel, hf⟩ := h
  obtain ⟨xs, n, _, _, _, hl, hg⟩ := DataW.trod_struct hs hf
  have k0 : Try.prog.cellsOf 23 = 1 := by kernel_rfl
  have k1 : Try.prog.cellsOf 3 = 1 := by kernel_rfl
  have k2 : Try.prog.cellsOf 4 = 1 := by kernel_rfl
  have k3 : Try.prog.cellsOf 24 = 1 := by kernel_rfl
  match l, hsz, xs, hl with
  | [c0, c1, c2, c3, c4, c5, c6], _, [y0, y1, y2, y3, y4, y5, y6], _ =>
    have g0 : DataW.trod enc Try.prog w base spare held n 23 [c0] = some y0 := by
      have := hg 0 _ rfl
      simpa [Value.cells, k0, k1, k2, k3] using this
    have g1 : DataW.trod enc Try.prog w base spare held n 3 [c1] = some y1 := by
      have := hg 1 _ rfl
      simpa [Value.cells, k0, k1, k2, k3] using this
    have g2 : DataW.trod enc Try.prog w base spare held n 4 [c2] = some y2 := by
      have := hg 2 _ rfl
      simpa [Value.cells, k0, k1, k2, k3] using this
    have g3 : DataW.trod enc Try.prog w base spare held n 3 [c3] = some y3 := by
      have := hg 3 _ rfl
      simpa [Value.cells, k0, k1, k2, k3] using this
    have g4 : DataW.trod enc Try.prog w base spare held n 3 [c4] = some y4 := by
      have := hg 4 _ rfl
      simpa [Value.cells, k0, k1, k2, k3] using this
    have g5 : DataW.trod enc Try.prog w base spare held n 3 [c5] = some y5 := by
      have := hg 5 _ rfl
      simpa [Value.cells, k0, k1, k2, k3] using this
    have g6 : DataW.trod enc Try.prog w base spare held n 24 [c6] = some y6 := by
      have := hg 6 _ rfl
      simpa [Value.cells, k0, k1, k2, k3] using this
    obtain ⟨c, e0, _, w0⟩ := DataW.trod_int Try.underlying23 g0
    obtain ⟨f, e1, _, w1⟩ := DataW.trod_int Try.underlying3 g1
    obtain ⟨d, e2, _⟩ := DataW.trod_bool Try.underlying4 g2
    obtain ⟨r1, e3, _, w3⟩ := DataW.trod_int Try.underlying3 g3
    obtain ⟨r2, e4, _, w4⟩ := DataW.trod_int Try.underlying3 g4
    obtain ⟨r3, e5, _, w5⟩ := DataW.trod_int Try.underlying3 g5
    obtain ⟨m, e6, _, w6⟩ := DataW.trod_int Try.underlying24 g6
    obtain rfl : c0 = _ := by simpa using e0
    obtain rfl : c1 = _ := by simpa using e1
    obtain rfl : c2 = _ := by simpa using e2
    obtain rfl : c3 = _ := by simpa using e3
    obtain rfl : c4 = _ := by simpa using e4
    obtain rfl : c5 = _ := by simpa using e5
    obtain rfl : c6 = _ := by simpa using e6
    exact ⟨c, f, r1, r2, r3, m, d, rfl, wf_i64 w0, wf_i64 w1, wf_i64 w3, wf_i64 w4, wf_i64 w5, (wf_u64 w6).1, (wf_u64 w6).2⟩
end
end Go.Proofs.Ytgekmhcekkmdhaa
