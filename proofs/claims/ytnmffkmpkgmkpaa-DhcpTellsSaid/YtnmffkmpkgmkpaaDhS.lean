/-
  The document's Same of two messages that read alike; a message that comes in.
-/
import Derived.Test.YtnmffkmpkgmkpaaDhG
import Derived.Test.YtnmffkmpkgmkpaaDhP
import Derived.Test.YtnmffkmpkgmkpaaBufW
set_option maxRecDepth 4000
set_option linter.unusedVariables false
set_option linter.unusedSimpArgs false
namespace Go.Proofs.Ytnmffkmpkgmkpaa
open Go.RowKit Go.ChangeShapes Go.WideShapes

theorem open_dhcp {H : Type} {enc : TypeId × Value → H} {w : World} {base : Nat} {spare : Nat → Bool} {held : Bool} {r : Reach} {b0 : Nat} {v : Value} {D : DataW H} {p : List MemPlace} (hv : Value.okWide Try.prog w r b0 26 v) (h : DataW.Trod enc Try.prog w base spare held 26 v D p) :
    ∃ f : DHR, Dh w v f ∧ ((∀ m ∈ D.weights Try.prog 26, m ≤ reachBytes) → f.x.length ≤ 140737488355328) := by
  have hs := Try.underlying26
  obtain ⟨⟨l⟩, rfl, hsz⟩ := okWide_struct hs hv
  rw [show Try.prog.cellsOf 26 = 12 by kernel_rfl] at hsz
  obtain ⟨fuel, hf⟩ := h
  obtain ⟨xs, n, _, hx, _, hl, hg⟩ := DataW.trod_struct hs hf
  have k0 : Try.prog.cellsOf 3 = 1 := by kernel_rfl
  have k1 : Try.prog.cellsOf 24 = 1 := by kernel_rfl
  have k2 : Try.prog.cellsOf 22 = 1 := by kernel_rfl
  match l, hsz, xs, hl with
  | [c0, c1, c2, c3, c4, c5, c6, c7, c8, c9, c10, c11], _, [y0, y1, y2, y3, y4, y5, y6, y7, y8, y9, y10, y11], _ =>
    have g0 : DataW.trod enc Try.prog w base spare held n 3 [c0] = some y0 := by
      have := hg 0 _ rfl
      simpa [Value.cells, k0, k1, k2] using this
    have g1 : DataW.trod enc Try.prog w base spare held n 24 [c1] = some y1 := by
      have := hg 1 _ rfl
      simpa [Value.cells, k0, k1, k2] using this
    have g2 : DataW.trod enc Try.prog w base spare held n 24 [c2] = some y2 := by
      have := hg 2 _ rfl
      simpa [Value.cells, k0, k1, k2] using this
    have g3 : DataW.trod enc Try.prog w base spare held n 24 [c3] = some y3 := by
      have := hg 3 _ rfl
      simpa [Value.cells, k0, k1, k2] using this
    have g4 : DataW.trod enc Try.prog w base spare held n 22 [c4] = some y4 := by
      have := hg 4 _ rfl
      simpa [Value.cells, k0, k1, k2] using this
    have g5 : DataW.trod enc Try.prog w base spare held n 3 [c5] = some y5 := by
      have := hg 5 _ rfl
      simpa [Value.cells, k0, k1, k2] using this
    have g6 : DataW.trod enc Try.prog w base spare held n 24 [c6] = some y6 := by
      have := hg 6 _ rfl
      simpa [Value.cells, k0, k1, k2] using this
    have g7 : DataW.trod enc Try.prog w base spare held n 24 [c7] = some y7 := by
      have := hg 7 _ rfl
      simpa [Value.cells, k0, k1, k2] using this
    have g8 : DataW.trod enc Try.prog w base spare held n 24 [c8] = some y8 := by
      have := hg 8 _ rfl
      simpa [Value.cells, k0, k1, k2] using this
    have g9 : DataW.trod enc Try.prog w base spare held n 24 [c9] = some y9 := by
      have := hg 9 _ rfl
      simpa [Value.cells, k0, k1, k2] using this
    have g10 : DataW.trod enc Try.prog w base spare held n 24 [c10] = some y10 := by
      have := hg 10 _ rfl
      simpa [Value.cells, k0, k1, k2] using this
    have g11 : DataW.trod enc Try.prog w base spare held n 24 [c11] = some y11 := by
      have := hg 11 _ rfl
      simpa [Value.cells, k0, k1, k2] using this
    obtain ⟨n0, e0, _, w0⟩ := DataW.trod_int Try.underlying3 g0
    obtain rfl : c0 = _ := by simpa using e0
    obtain ⟨n1, e1, _, w1⟩ := DataW.trod_int Try.underlying24 g1
    obtain rfl : c1 = _ := by simpa using e1
    obtain ⟨n2, e2, _, w2⟩ := DataW.trod_int Try.underlying24 g2
    obtain rfl : c2 = _ := by simpa using e2
    obtain ⟨n3, e3, _, w3⟩ := DataW.trod_int Try.underlying24 g3
    obtain rfl : c3 = _ := by simpa using e3
    obtain ⟨x4, b4', w4⟩ := buf_of_trod_w Try.underlying22 Try.underlying5 (by kernel_rfl) g4
    obtain ⟨a4, q4, rfl, _, _⟩ := b4'.shape
    obtain ⟨n5, e5, _, w5⟩ := DataW.trod_int Try.underlying3 g5
    obtain rfl : c5 = _ := by simpa using e5
    obtain ⟨n6, e6, _, w6⟩ := DataW.trod_int Try.underlying24 g6
    obtain rfl : c6 = _ := by simpa using e6
    obtain ⟨n7, e7, _, w7⟩ := DataW.trod_int Try.underlying24 g7
    obtain rfl : c7 = _ := by simpa using e7
    obtain ⟨n8, e8, _, w8⟩ := DataW.trod_int Try.underlying24 g8
    obtain rfl : c8 = _ := by simpa using e8
    obtain ⟨n9, e9, _, w9⟩ := DataW.trod_int Try.underlying24 g9
    obtain rfl : c9 = _ := by simpa using e9
    obtain ⟨n10, e10, _, w10⟩ := DataW.trod_int Try.underlying24 g10
    obtain rfl : c10 = _ := by simpa using e10
    obtain ⟨n11, e11, _, w11⟩ := DataW.trod_int Try.underlying24 g11
    obtain rfl : c11 = _ := by simpa using e11
    refine ⟨_, Dh.of b4' (wf_i64 w0) (wf_u32 w1) (wf_u32 w2) (wf_u32 w3) (wf_i64 w5) (wf_u32 w6) (wf_u32 w7) (wf_u32 w8) (wf_u32 w9) (wf_u32 w10) (wf_u32 w11), fun hw => ?_⟩
    have hD : D = .agg [y0.1, y1.1, y2.1, y3.1, y4.1, y5.1, y6.1, y7.1, y8.1, y9.1, y10.1, y11.1] := by have := congrArg Prod.fst hx; simpa using this
    have hin : ∀ (j : Nat) (t : TypeId) (d : DataW H), [3, 24, 24, 24, 22, 3, 24, 24, 24, 24, 24, 24][j]? = some t → [y0.1, y1.1, y2.1, y3.1, y4.1, y5.1, y6.1, y7.1, y8.1, y9.1, y10.1, y11.1][j]? = some d → ∀ m ∈ d.weights Try.prog t, m ≤ reachBytes := fun j t d h1 h2 m hm => by
      refine hw m ?_
      rw [hD]
      simp only [DataW.weights, hs]
      exact DataW.weights_mem_each h1 h2 m hm
    have kb : Try.prog.bytesOf 5 = 1 := by kernel_rfl
    have r4 := w4 reachBytes (hin 4 _ _ rfl rfl)
    rw [kb] at r4
    unfold reachBytes at r4
    exact (by show x4.length ≤ _; omega)
set_option maxHeartbeats 2000000 in
theorem same20_c {f : DHR} {sp1 : Option Addr} {sk1 : Nat} {tp1 : Option Addr} {tk1 : Nat} {w : World} (h1 : Buf w (.slice sp1 f.x.length sk1) f.x) (h2 : Buf w (.slice tp1 f.x.length tk1) f.x) :
    Calls Try.prog 9 #[.agg #[.int .i64 f.op, .int .u32 f.xid, .int .u32 f.ci, .int .u32 f.yi, .slice sp1 f.x.length sk1, .int .i64 f.ty, .int .u32 f.wa, .int .u32 f.se, .int .u32 f.le, .int .u32 f.ma, .int .u32 f.ro, .int .u32 f.dn], .agg #[.int .i64 f.op, .int .u32 f.xid, .int .u32 f.ci, .int .u32 f.yi, .slice tp1 f.x.length tk1, .int .i64 f.ty, .int .u32 f.wa, .int .u32 f.se, .int .u32 f.le, .int .u32 f.ma, .int .u32 f.ro, .int .u32 f.dn]] w fun e w' => e = .returned (.bool true) ∧ Grew w w' := by
  have H1 := Lib.hid h1
  have H2 := Lib.hid h2
  clear h1 h2
  go_enter Try.func9, Try.ntmps9
  go_upto_region 1 with fail
  have hA : Blk ((w.alloc (.cells #[.int .i64 f.op, .int .u32 f.xid, .int .u32 f.ci, .int .u32 f.yi, .slice sp1 f.x.length sk1, .int .i64 f.ty, .int .u32 f.wa, .int .u32 f.se, .int .u32 f.le, .int .u32 f.ma, .int .u32 f.ro, .int .u32 f.dn] 26)).alloc (.cells #[.int .i64 f.op, .int .u32 f.xid, .int .u32 f.ci, .int .u32 f.yi, .slice tp1 f.x.length tk1, .int .i64 f.ty, .int .u32 f.wa, .int .u32 f.se, .int .u32 f.le, .int .u32 f.ma, .int .u32 f.ro, .int .u32 f.dn] 26)) w.heap.size #[.int .i64 f.op, .int .u32 f.xid, .int .u32 f.ci, .int .u32 f.yi, .slice sp1 f.x.length sk1, .int .i64 f.ty, .int .u32 f.wa, .int .u32 f.se, .int .u32 f.le, .int .u32 f.ma, .int .u32 f.ro, .int .u32 f.dn] 26 := (Blk.new _ _ _ _ rfl).alloc _
  have hB : Blk ((w.alloc (.cells #[.int .i64 f.op, .int .u32 f.xid, .int .u32 f.ci, .int .u32 f.yi, .slice sp1 f.x.length sk1, .int .i64 f.ty, .int .u32 f.wa, .int .u32 f.se, .int .u32 f.le, .int .u32 f.ma, .int .u32 f.ro, .int .u32 f.dn] 26)).alloc (.cells #[.int .i64 f.op, .int .u32 f.xid, .int .u32 f.ci, .int .u32 f.yi, .slice tp1 f.x.length tk1, .int .i64 f.ty, .int .u32 f.wa, .int .u32 f.se, .int .u32 f.le, .int .u32 f.ma, .int .u32 f.ro, .int .u32 f.dn] 26)) (w.heap.size + 1) #[.int .i64 f.op, .int .u32 f.xid, .int .u32 f.ci, .int .u32 f.yi, .slice tp1 f.x.length tk1, .int .i64 f.ty, .int .u32 f.wa, .int .u32 f.se, .int .u32 f.le, .int .u32 f.ma, .int .u32 f.ro, .int .u32 f.dn] 26 := Blk.new _ _ _ _ (by simp)
  have g0 : Grew w ((w.alloc (.cells #[.int .i64 f.op, .int .u32 f.xid, .int .u32 f.ci, .int .u32 f.yi, .slice sp1 f.x.length sk1, .int .i64 f.ty, .int .u32 f.wa, .int .u32 f.se, .int .u32 f.le, .int .u32 f.ma, .int .u32 f.ro, .int .u32 f.dn] 26)).alloc (.cells #[.int .i64 f.op, .int .u32 f.xid, .int .u32 f.ci, .int .u32 f.yi, .slice tp1 f.x.length tk1, .int .i64 f.ty, .int .u32 f.wa, .int .u32 f.se, .int .u32 f.le, .int .u32 f.ma, .int .u32 f.ro, .int .u32 f.dn] 26)) := ((Grew.refl _).alloc _).alloc _
  have c1 := convert_bytes (H1.out.grew g0).bytes
  have c2 := convert_bytes (H2.out.grew g0).bytes
  generalize ((w.alloc (.cells #[.int .i64 f.op, .int .u32 f.xid, .int .u32 f.ci, .int .u32 f.yi, .slice sp1 f.x.length sk1, .int .i64 f.ty, .int .u32 f.wa, .int .u32 f.se, .int .u32 f.le, .int .u32 f.ma, .int .u32 f.ro, .int .u32 f.dn] 26)).alloc (.cells #[.int .i64 f.op, .int .u32 f.xid, .int .u32 f.ci, .int .u32 f.yi, .slice tp1 f.x.length tk1, .int .i64 f.ty, .int .u32 f.wa, .int .u32 f.se, .int .u32 f.le, .int .u32 f.ma, .int .u32 f.ro, .int .u32 f.dn] 26)) = w0 at *
  generalize w.heap.size + 1 = B at *
  generalize w.heap.size = A at *
  have y0 := hA.cell 0
  have y1 := hA.cell 1
  have y2 := hA.cell 2
  have y3 := hA.cell 3
  have y4 := hA.cell 4
  have y5 := hA.cell 5
  have y6 := hA.cell 6
  have y7 := hA.cell 7
  have y8 := hA.cell 8
  have y9 := hA.cell 9
  have y10 := hA.cell 10
  have y11 := hA.cell 11
  have z0 := hB.cell 0
  have z1 := hB.cell 1
  have z2 := hB.cell 2
  have z3 := hB.cell 3
  have z4 := hB.cell 4
  have z5 := hB.cell 5
  have z6 := hB.cell 6
  have z7 := hB.cell 7
  have z8 := hB.cell 8
  have z9 := hB.cell 9
  have z10 := hB.cell 10
  have z11 := hB.cell 11
  go_wp2_with fail
  go_ret
  exact ⟨rfl, g0⟩
end Go.Proofs.Ytnmffkmpkgmkpaa
