/-
  A parameter that is control registers, opened: seventeen plain numbers.
-/
import Derived.Test.YtbkbbcfhmjodlaaDoorLaw
import Derived.Deep.Fields
import Derived.ChangeArms
set_option linter.unusedVariables false
set_option linter.unusedSimpArgs false
namespace Go.Proofs.YtbkbbcfhmjodlaaDoor
open Go.ChangeShapes Go.WideShapes Go.RowKit Go.Deep

/-- The registers' value: c tells each by its place. -/
def csA (c : Nat → Int) : Array Value := #[.int .u64 (c 0), .int .u64 (c 1), .int .u64 (c 2), .int .u64 (c 3), .int .u64 (c 4), .int .u64 (c 5), .int .u64 (c 6), .int .u64 (c 7), .int .u64 (c 8), .int .u64 (c 9), .int .u64 (c 10), .int .u64 (c 11), .int .u64 (c 12), .int .u64 (c 13), .int .u64 (c 14), .int .u64 (c 15), .int .u64 (c 16)]
abbrev csV (c : Nat → Int) : Value := .agg (csA c)
def csOk (c : Nat → Int) : Prop := ∀ i, 0 ≤ c i ∧ c i < 18446744073709551616
section
variable {H : Type} {enc : TypeId × Value → H} {w : World} {base : Nat} {spare : Nat → Bool} {held : Bool}
theorem open_csrs {r : Reach} {b0 : Nat} {v : Value} {D : DataW H} {p : List MemPlace} (hv : Value.okWide Tryd.prog w r b0 24 v) (h : DataW.Trod enc Tryd.prog w base spare held 24 v D p) :
    ∃ c : Nat → Int, v = csV c ∧ csOk c := by
  have hs := Tryd.underlying24
  obtain ⟨⟨l⟩, rfl, hsz⟩ := okWide_struct hs hv
  rw [show Tryd.prog.cellsOf 24 = 17 by kernel_rfl] at hsz
  obtain ⟨fuel, hf⟩ := h
  obtain ⟨xs, n, _, _, _, hl, hg⟩ := DataW.trod_struct hs hf
  have k3 : Tryd.prog.cellsOf 22 = 1 := by kernel_rfl
  match l, hsz, xs, hl with
  | [c0, c1, c2, c3, c4, c5, c6, c7, c8, c9, c10, c11, c12, c13, c14, c15, c16], _, [y0, y1, y2, y3, y4, y5, y6, y7, y8, y9, y10, y11, y12, y13, y14, y15, y16], _ =>
    have g0 : DataW.trod enc Tryd.prog w base spare held n 22 [c0] = some y0 := by
      have := hg 0 _ rfl
      simpa [Value.cells, k3] using this
    have g1 : DataW.trod enc Tryd.prog w base spare held n 22 [c1] = some y1 := by
      have := hg 1 _ rfl
      simpa [Value.cells, k3] using this
    have g2 : DataW.trod enc Tryd.prog w base spare held n 22 [c2] = some y2 := by
      have := hg 2 _ rfl
      simpa [Value.cells, k3] using this
    have g3 : DataW.trod enc Tryd.prog w base spare held n 22 [c3] = some y3 := by
      have := hg 3 _ rfl
      simpa [Value.cells, k3] using this
    have g4 : DataW.trod enc Tryd.prog w base spare held n 22 [c4] = some y4 := by
      have := hg 4 _ rfl
      simpa [Value.cells, k3] using this
    have g5 : DataW.trod enc Tryd.prog w base spare held n 22 [c5] = some y5 := by
      have := hg 5 _ rfl
      simpa [Value.cells, k3] using this
    have g6 : DataW.trod enc Tryd.prog w base spare held n 22 [c6] = some y6 := by
      have := hg 6 _ rfl
      simpa [Value.cells, k3] using this
    have g7 : DataW.trod enc Tryd.prog w base spare held n 22 [c7] = some y7 := by
      have := hg 7 _ rfl
      simpa [Value.cells, k3] using this
    have g8 : DataW.trod enc Tryd.prog w base spare held n 22 [c8] = some y8 := by
      have := hg 8 _ rfl
      simpa [Value.cells, k3] using this
    have g9 : DataW.trod enc Tryd.prog w base spare held n 22 [c9] = some y9 := by
      have := hg 9 _ rfl
      simpa [Value.cells, k3] using this
    have g10 : DataW.trod enc Tryd.prog w base spare held n 22 [c10] = some y10 := by
      have := hg 10 _ rfl
      simpa [Value.cells, k3] using this
    have g11 : DataW.trod enc Tryd.prog w base spare held n 22 [c11] = some y11 := by
      have := hg 11 _ rfl
      simpa [Value.cells, k3] using this
    have g12 : DataW.trod enc Tryd.prog w base spare held n 22 [c12] = some y12 := by
      have := hg 12 _ rfl
      simpa [Value.cells, k3] using this
    have g13 : DataW.trod enc Tryd.prog w base spare held n 22 [c13] = some y13 := by
      have := hg 13 _ rfl
      simpa [Value.cells, k3] using this
    have g14 : DataW.trod enc Tryd.prog w base spare held n 22 [c14] = some y14 := by
      have := hg 14 _ rfl
      simpa [Value.cells, k3] using this
    have g15 : DataW.trod enc Tryd.prog w base spare held n 22 [c15] = some y15 := by
      have := hg 15 _ rfl
      simpa [Value.cells, k3] using this
    have g16 : DataW.trod enc Tryd.prog w base spare held n 22 [c16] = some y16 := by
      have := hg 16 _ rfl
      simpa [Value.cells, k3] using this
    obtain ⟨m0, e0, _, w0⟩ := DataW.trod_int Tryd.underlying22 g0
    obtain rfl : c0 = _ := by simpa using e0
    obtain ⟨m1, e1, _, w1⟩ := DataW.trod_int Tryd.underlying22 g1
    obtain rfl : c1 = _ := by simpa using e1
    obtain ⟨m2, e2, _, w2⟩ := DataW.trod_int Tryd.underlying22 g2
    obtain rfl : c2 = _ := by simpa using e2
    obtain ⟨m3, e3, _, w3⟩ := DataW.trod_int Tryd.underlying22 g3
    obtain rfl : c3 = _ := by simpa using e3
    obtain ⟨m4, e4, _, w4⟩ := DataW.trod_int Tryd.underlying22 g4
    obtain rfl : c4 = _ := by simpa using e4
    obtain ⟨m5, e5, _, w5⟩ := DataW.trod_int Tryd.underlying22 g5
    obtain rfl : c5 = _ := by simpa using e5
    obtain ⟨m6, e6, _, w6⟩ := DataW.trod_int Tryd.underlying22 g6
    obtain rfl : c6 = _ := by simpa using e6
    obtain ⟨m7, e7, _, w7⟩ := DataW.trod_int Tryd.underlying22 g7
    obtain rfl : c7 = _ := by simpa using e7
    obtain ⟨m8, e8, _, w8⟩ := DataW.trod_int Tryd.underlying22 g8
    obtain rfl : c8 = _ := by simpa using e8
    obtain ⟨m9, e9, _, w9⟩ := DataW.trod_int Tryd.underlying22 g9
    obtain rfl : c9 = _ := by simpa using e9
    obtain ⟨m10, e10, _, w10⟩ := DataW.trod_int Tryd.underlying22 g10
    obtain rfl : c10 = _ := by simpa using e10
    obtain ⟨m11, e11, _, w11⟩ := DataW.trod_int Tryd.underlying22 g11
    obtain rfl : c11 = _ := by simpa using e11
    obtain ⟨m12, e12, _, w12⟩ := DataW.trod_int Tryd.underlying22 g12
    obtain rfl : c12 = _ := by simpa using e12
    obtain ⟨m13, e13, _, w13⟩ := DataW.trod_int Tryd.underlying22 g13
    obtain rfl : c13 = _ := by simpa using e13
    obtain ⟨m14, e14, _, w14⟩ := DataW.trod_int Tryd.underlying22 g14
    obtain rfl : c14 = _ := by simpa using e14
    obtain ⟨m15, e15, _, w15⟩ := DataW.trod_int Tryd.underlying22 g15
    obtain rfl : c15 = _ := by simpa using e15
    obtain ⟨m16, e16, _, w16⟩ := DataW.trod_int Tryd.underlying22 g16
    obtain rfl : c16 = _ := by simpa using e16
    refine ⟨fun i => [m0, m1, m2, m3, m4, m5, m6, m7, m8, m9, m10, m11, m12, m13, m14, m15, m16].getD i 0, rfl, fun i => ?_⟩
    match i with
    | 0 => exact wf_u64 w0
    | 1 => exact wf_u64 w1
    | 2 => exact wf_u64 w2
    | 3 => exact wf_u64 w3
    | 4 => exact wf_u64 w4
    | 5 => exact wf_u64 w5
    | 6 => exact wf_u64 w6
    | 7 => exact wf_u64 w7
    | 8 => exact wf_u64 w8
    | 9 => exact wf_u64 w9
    | 10 => exact wf_u64 w10
    | 11 => exact wf_u64 w11
    | 12 => exact wf_u64 w12
    | 13 => exact wf_u64 w13
    | 14 => exact wf_u64 w14
    | 15 => exact wf_u64 w15
    | 16 => exact wf_u64 w16
    | i + 17 => exact ⟨by simp, by simp⟩
end
end Go.Proofs.YtbkbbcfhmjodlaaDoor
