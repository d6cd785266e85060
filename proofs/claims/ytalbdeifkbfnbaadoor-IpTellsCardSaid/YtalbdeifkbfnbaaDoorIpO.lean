/-
  A packet that comes in.
-/
import Derived.Test.YtalbdeifkbfnbaaDoorIpN
import Derived.Test.YtalbdeifkbfnbaaDoorBufW
set_option maxRecDepth 4000
set_option linter.unusedVariables false
set_option linter.unusedSimpArgs false
namespace Go.Proofs.YtalbdeifkbfnbaaDoor
open Go.RowKit Go.ChangeShapes Go.WideShapes

theorem open_ip {H : Type} {enc : TypeId × Value → H} {w : World} {base : Nat} {spare : Nat → Bool} {held : Bool} {r : Reach} {b0 : Nat} {v : Value} {D : DataW H} {p : List MemPlace} (hv : Value.okWide Tryd.prog w r b0 25 v) (h : DataW.Trod enc Tryd.prog w base spare held 25 v D p) :
    ∃ f : PK, Pk w v f ∧ ((∀ m ∈ D.weights Tryd.prog 25, m ≤ reachBytes) → f.o.length ≤ 140737488355328 ∧ f.x.length ≤ 140737488355328) := by
  have hs := Tryd.underlying25
  obtain ⟨⟨l⟩, rfl, hsz⟩ := okWide_struct hs hv
  rw [show Tryd.prog.cellsOf 25 = 10 by kernel_rfl] at hsz
  obtain ⟨fuel, hf⟩ := h
  obtain ⟨xs, n, _, hx, _, hl, hg⟩ := DataW.trod_struct hs hf
  have k0 : Tryd.prog.cellsOf 3 = 1 := by kernel_rfl
  have k1 : Tryd.prog.cellsOf 22 = 1 := by kernel_rfl
  have k2 : Tryd.prog.cellsOf 23 = 1 := by kernel_rfl
  match l, hsz, xs, hl with
  | [c0, c1, c2, c3, c4, c5, c6, c7, c8, c9], _, [y0, y1, y2, y3, y4, y5, y6, y7, y8, y9], _ =>
    have g0 : DataW.trod enc Tryd.prog w base spare held n 3 [c0] = some y0 := by
      have := hg 0 _ rfl
      simpa [Value.cells, k0, k1, k2] using this
    have g1 : DataW.trod enc Tryd.prog w base spare held n 3 [c1] = some y1 := by
      have := hg 1 _ rfl
      simpa [Value.cells, k0, k1, k2] using this
    have g2 : DataW.trod enc Tryd.prog w base spare held n 3 [c2] = some y2 := by
      have := hg 2 _ rfl
      simpa [Value.cells, k0, k1, k2] using this
    have g3 : DataW.trod enc Tryd.prog w base spare held n 3 [c3] = some y3 := by
      have := hg 3 _ rfl
      simpa [Value.cells, k0, k1, k2] using this
    have g4 : DataW.trod enc Tryd.prog w base spare held n 3 [c4] = some y4 := by
      have := hg 4 _ rfl
      simpa [Value.cells, k0, k1, k2] using this
    have g5 : DataW.trod enc Tryd.prog w base spare held n 3 [c5] = some y5 := by
      have := hg 5 _ rfl
      simpa [Value.cells, k0, k1, k2] using this
    have g6 : DataW.trod enc Tryd.prog w base spare held n 22 [c6] = some y6 := by
      have := hg 6 _ rfl
      simpa [Value.cells, k0, k1, k2] using this
    have g7 : DataW.trod enc Tryd.prog w base spare held n 22 [c7] = some y7 := by
      have := hg 7 _ rfl
      simpa [Value.cells, k0, k1, k2] using this
    have g8 : DataW.trod enc Tryd.prog w base spare held n 23 [c8] = some y8 := by
      have := hg 8 _ rfl
      simpa [Value.cells, k0, k1, k2] using this
    have g9 : DataW.trod enc Tryd.prog w base spare held n 23 [c9] = some y9 := by
      have := hg 9 _ rfl
      simpa [Value.cells, k0, k1, k2] using this
    obtain ⟨n0, e0, _, w0⟩ := DataW.trod_int Tryd.underlying3 g0
    obtain rfl : c0 = _ := by simpa using e0
    obtain ⟨n1, e1, _, w1⟩ := DataW.trod_int Tryd.underlying3 g1
    obtain rfl : c1 = _ := by simpa using e1
    obtain ⟨n2, e2, _, w2⟩ := DataW.trod_int Tryd.underlying3 g2
    obtain rfl : c2 = _ := by simpa using e2
    obtain ⟨n3, e3, _, w3⟩ := DataW.trod_int Tryd.underlying3 g3
    obtain rfl : c3 = _ := by simpa using e3
    obtain ⟨n4, e4, _, w4⟩ := DataW.trod_int Tryd.underlying3 g4
    obtain rfl : c4 = _ := by simpa using e4
    obtain ⟨n5, e5, _, w5⟩ := DataW.trod_int Tryd.underlying3 g5
    obtain rfl : c5 = _ := by simpa using e5
    obtain ⟨n6, e6, _, w6⟩ := DataW.trod_int Tryd.underlying22 g6
    obtain rfl : c6 = _ := by simpa using e6
    obtain ⟨n7, e7, _, w7⟩ := DataW.trod_int Tryd.underlying22 g7
    obtain rfl : c7 = _ := by simpa using e7
    obtain ⟨x8, b8', w8⟩ := buf_of_trod_w Tryd.underlying23 Tryd.underlying5 (by kernel_rfl) g8
    obtain ⟨a8, q8, rfl, _, _⟩ := b8'.shape
    obtain ⟨x9, b9', w9⟩ := buf_of_trod_w Tryd.underlying23 Tryd.underlying5 (by kernel_rfl) g9
    obtain ⟨a9, q9, rfl, _, _⟩ := b9'.shape
    refine ⟨_, Pk.of b8' b9' (wf_i64 w0) (wf_i64 w1) (wf_i64 w2) (wf_i64 w3) (wf_i64 w4) (wf_i64 w5) (wf_u32 w6) (wf_u32 w7), fun hw => ?_⟩
    have hD : D = .agg [y0.1, y1.1, y2.1, y3.1, y4.1, y5.1, y6.1, y7.1, y8.1, y9.1] := by have := congrArg Prod.fst hx; simpa using this
    have hin : ∀ (j : Nat) (t : TypeId) (d : DataW H), [3, 3, 3, 3, 3, 3, 22, 22, 23, 23][j]? = some t → [y0.1, y1.1, y2.1, y3.1, y4.1, y5.1, y6.1, y7.1, y8.1, y9.1][j]? = some d → ∀ m ∈ d.weights Tryd.prog t, m ≤ reachBytes := fun j t d h1 h2 m hm => by
      refine hw m ?_
      rw [hD]
      simp only [DataW.weights, hs]
      exact DataW.weights_mem_each h1 h2 m hm
    have kb : Tryd.prog.bytesOf 5 = 1 := by kernel_rfl
    have r8 := w8 reachBytes (hin 8 _ _ rfl rfl)
    rw [kb] at r8
    have r9 := w9 reachBytes (hin 9 _ _ rfl rfl)
    rw [kb] at r9
    unfold reachBytes at r8 r9
    exact ⟨by show x8.length ≤ _; omega, by show x9.length ≤ _; omega⟩
end Go.Proofs.YtalbdeifkbfnbaaDoor
