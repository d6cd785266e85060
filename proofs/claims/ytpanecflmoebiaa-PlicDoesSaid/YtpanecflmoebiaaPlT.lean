/-
  A parameter that is a controller, opened; what must come at any rate ('heads' of the statements about package plic).
-/
import Derived.Test.YtpanecflmoebiaaPlS
import Derived.Test.YtpanecflmoebiaaLaw
import Derived.Deep.Fields
import Derived.ChangeArms
import Derived.SizedLaws
set_option linter.unusedVariables false
set_option linter.unusedSimpArgs false
namespace Go.Proofs.Ytpanecflmoebiaa
open Go.RowKit

section
open Go.ChangeShapes Go.WideShapes Go.Deep
variable {H : Type} {enc : TypeId × Value → H} {w : World} {base : Nat} {spare : Nat → Bool} {held : Bool}
theorem open_plic {r : Reach} {b0 : Nat} {v : Value} {D : DataW H} {p : List MemPlace} (hv : Value.okWide Try.prog w r b0 24 v) (h : DataW.Trod enc Try.prog w base spare held 24 v D p) :
    ∃ (s : PS) (a1 : Option Addr) (c1 : Nat) (a2 : Option Addr) (c2 : Nat) (a3 : Option Addr) (c3 : Nat), v = plV s a1 c1 a2 c2 a3 c3 ∧ Pl w (plV s a1 c1 a2 c2 a3 c3) s ∧ ((∀ m ∈ D.weights Try.prog 24, m ≤ reachBytes) → s.Fits) := by
  have hs := Try.underlying24
  obtain ⟨⟨l⟩, rfl, hsz⟩ := okWide_struct hs hv
  rw [show Try.prog.cellsOf 24 = 5 by kernel_rfl] at hsz
  obtain ⟨fuel, hf⟩ := h
  obtain ⟨xs, n, _, hx, _, hl, hg⟩ := DataW.trod_struct hs hf
  have k0 : Try.prog.cellsOf 22 = 1 := by kernel_rfl
  have k1 : Try.prog.cellsOf 3 = 1 := by kernel_rfl
  have kb : Try.prog.bytesOf 3 = 8 := by kernel_rfl
  match l, hsz, xs, hl with
  | [c0, c1, c2, c3, c4], _, [y0, y1, y2, y3, y4], _ =>
    have g0 : DataW.trod enc Try.prog w base spare held n 22 [c0] = some y0 := by
      have := hg 0 _ rfl
      simpa [Value.cells, k0, k1] using this
    have g1 : DataW.trod enc Try.prog w base spare held n 3 [c1] = some y1 := by
      have := hg 1 _ rfl
      simpa [Value.cells, k0, k1] using this
    have g2 : DataW.trod enc Try.prog w base spare held n 3 [c2] = some y2 := by
      have := hg 2 _ rfl
      simpa [Value.cells, k0, k1] using this
    have g3 : DataW.trod enc Try.prog w base spare held n 22 [c3] = some y3 := by
      have := hg 3 _ rfl
      simpa [Value.cells, k0, k1] using this
    have g4 : DataW.trod enc Try.prog w base spare held n 22 [c4] = some y4 := by
      have := hg 4 _ rfl
      simpa [Value.cells, k0, k1] using this
    obtain ⟨x0, b0', w0⟩ := Ints.buf_of_trod_w Try.underlying22 Try.underlying3 (by kernel_rfl) g0
    obtain ⟨N, e1, _, wN⟩ := DataW.trod_int Try.underlying3 g1
    obtain ⟨K, e2, _, wK⟩ := DataW.trod_int Try.underlying3 g2
    obtain ⟨x3, b3, w3⟩ := Ints.buf_of_trod_w Try.underlying22 Try.underlying3 (by kernel_rfl) g3
    obtain ⟨x4, b4, w4⟩ := Ints.buf_of_trod_w Try.underlying22 Try.underlying3 (by kernel_rfl) g4
    obtain rfl : c1 = _ := by simpa using e1
    obtain rfl : c2 = _ := by simpa using e2
    obtain ⟨a0, q0, rfl, _, _⟩ := b0'.shape
    obtain ⟨a3, q3, rfl, _, _⟩ := b3.shape
    obtain ⟨a4, q4, rfl, _, _⟩ := b4.shape
    refine ⟨⟨x0, N, K, x3, x4⟩, a0, q0, a3, q3, a4, q4, rfl, ⟨⟨_, _, _, rfl, b0', b3, b4⟩, wf_i64 wN, wf_i64 wK⟩, fun hw => ?_⟩
    have hD : D = .agg [y0.1, y1.1, y2.1, y3.1, y4.1] := by have := congrArg Prod.fst hx; simpa using this
    have hin : ∀ (j : Nat) (t : TypeId) (d : DataW H), [22, 3, 3, 22, 22][j]? = some t → [y0.1, y1.1, y2.1, y3.1, y4.1][j]? = some d → ∀ m ∈ d.weights Try.prog t, m ≤ reachBytes := fun j t d h1 h2 m hm => by
      refine hw m ?_
      rw [hD]
      simp only [DataW.weights, hs]
      exact DataW.weights_mem_each h1 h2 m hm
    have r0 := w0 reachBytes (hin 0 _ _ rfl rfl)
    have r3 := w3 reachBytes (hin 3 _ _ rfl rfl)
    have r4 := w4 reachBytes (hin 4 _ _ rfl rfl)
    rw [kb] at r0 r3 r4
    unfold reachBytes at r0 r3 r4
    exact ⟨by show x0.length ≤ _; omega, by show x3.length ≤ _; omega, by show x4.length ≤ _; omega⟩
end

def hS1 : PS := ⟨[0, 3, 0], 0, 0, [0, 0], [0, 0]⟩
def hS2 : PS := ⟨[0, 3, 0], 0, 0, [2, 0], [0, 0]⟩
def hS3 : PS := ⟨[0, 3, 0], 2, 0, [2, 0], [0, 0]⟩
def hS4 : PS := ⟨[0, 3, 0], 0, 2, [2, 0], [0, 0]⟩
theorem hd_1 {v : Value} {w : World} (hb : Pl w v newV.ps) : Calls Try.prog 12 #[v, .int .u64 4, .int .i64 4, .int .u64 3] w fun e w' => ∃ a1 a2 a3 a4 a5 a6, e = .returned (.tuple #[.agg #[.slice a1 3 a2, .int .i64 0, .int .i64 0, .slice a3 2 a4, .slice a5 2 a6], .bool true]) ∧ Hid (Plr w' w.heap.size (.agg #[.slice a1 3 a2, .int .i64 0, .int .i64 0, .slice a3 2 a4, .slice a5 2 a6]) hS1) ∧ Grew w w' := by
  refine (store_t newV.fits 4 4 3 (by omega) (by omega) hb).mono ?_
  rintro e w' ⟨v', rfl, H, g⟩
  rw [show stS newV.ps 4 4 3 = hS1 by kernel_rfl] at H
  rw [show badB newV.ps 4 4 = false by kernel_rfl]
  obtain ⟨a1, a2, a3, a4, a5, a6, rfl⟩ := H.out.pl.shaped
  exact ⟨a1, a2, a3, a4, a5, a6, rfl, H, g⟩
theorem hd_2 {v : Value} {w : World} (hb : Pl w v hS1) : Calls Try.prog 12 #[v, .int .u64 8192, .int .i64 4, .int .u64 2] w fun e w' => ∃ a1 a2 a3 a4 a5 a6, e = .returned (.tuple #[.agg #[.slice a1 3 a2, .int .i64 0, .int .i64 0, .slice a3 2 a4, .slice a5 2 a6], .bool true]) ∧ Hid (Plr w' w.heap.size (.agg #[.slice a1 3 a2, .int .i64 0, .int .i64 0, .slice a3 2 a4, .slice a5 2 a6]) hS2) ∧ Grew w w' := by
  refine (store_t (⟨by decide, by decide, by decide⟩ : hS1.Fits) 8192 4 2 (by omega) (by omega) hb).mono ?_
  rintro e w' ⟨v', rfl, H, g⟩
  rw [show stS hS1 8192 4 2 = hS2 by kernel_rfl] at H
  rw [show badB hS1 8192 4 = false by kernel_rfl]
  obtain ⟨a1, a2, a3, a4, a5, a6, rfl⟩ := H.out.pl.shaped
  exact ⟨a1, a2, a3, a4, a5, a6, rfl, H, g⟩
theorem hd_3 {v : Value} {w : World} (hb : Pl w v hS2) : Calls Try.prog 9 #[v, .int .i64 2] w fun e w' => ∃ a1 a2 a3 a4 a5 a6, e = .returned (.agg #[.slice a1 3 a2, .int .i64 2, .int .i64 0, .slice a3 2 a4, .slice a5 2 a6]) ∧ Hid (Plr w' w.heap.size (.agg #[.slice a1 3 a2, .int .i64 2, .int .i64 0, .slice a3 2 a4, .slice a5 2 a6]) hS3) ∧ Grew w w' := by
  refine (set_t (⟨by decide, by decide, by decide⟩ : hS2.Fits) 2 hb).mono ?_
  rintro e w' ⟨v', rfl, H, g⟩
  rw [show setS hS2 2 = hS3 by kernel_rfl] at H
  obtain ⟨a1, a2, a3, a4, a5, a6, rfl⟩ := H.out.pl.shaped
  exact ⟨a1, a2, a3, a4, a5, a6, rfl, H, g⟩
theorem hd_4 {v : Value} {w : World} (hb : Pl w v hS3) : Calls Try.prog 11 #[v, .int .u64 2097156, .int .i64 4] w fun e w' => ∃ a1 a2 a3 a4 a5 a6, e = .returned (.tuple #[.int .u64 1, .agg #[.slice a1 3 a2, .int .i64 0, .int .i64 2, .slice a3 2 a4, .slice a5 2 a6], .bool true]) ∧ Hid (Plr w' w.heap.size (.agg #[.slice a1 3 a2, .int .i64 0, .int .i64 2, .slice a3 2 a4, .slice a5 2 a6]) hS4) ∧ Grew w w' := by
  refine (load_t (⟨by decide, by decide, by decide⟩ : hS3.Fits) 2097156 4 hb).mono ?_
  rintro e w' ⟨v', rfl, H, g⟩
  rw [show ldS hS3 2097156 4 = hS4 by kernel_rfl] at H
  rw [show badB hS3 2097156 4 = false by kernel_rfl, show ldY hS3 2097156 4 = 1 by kernel_rfl]
  obtain ⟨a1, a2, a3, a4, a5, a6, rfl⟩ := H.out.pl.shaped
  exact ⟨a1, a2, a3, a4, a5, a6, rfl, H, g⟩
theorem hd_5 {v : Value} {w : World} (hb : Pl w v hS4) : Calls Try.prog 11 #[v, .int .u64 2097156, .int .i64 4] w fun e w' => ∃ a1 a2 a3 a4 a5 a6, e = .returned (.tuple #[.int .u64 0, .agg #[.slice a1 3 a2, .int .i64 0, .int .i64 2, .slice a3 2 a4, .slice a5 2 a6], .bool true]) ∧ Hid (Plr w' w.heap.size (.agg #[.slice a1 3 a2, .int .i64 0, .int .i64 2, .slice a3 2 a4, .slice a5 2 a6]) hS4) ∧ Grew w w' := by
  refine (load_t (⟨by decide, by decide, by decide⟩ : hS4.Fits) 2097156 4 hb).mono ?_
  rintro e w' ⟨v', rfl, H, g⟩
  rw [show ldS hS4 2097156 4 = hS4 by kernel_rfl] at H
  rw [show badB hS4 2097156 4 = false by kernel_rfl, show ldY hS4 2097156 4 = 0 by kernel_rfl]
  obtain ⟨a1, a2, a3, a4, a5, a6, rfl⟩ := H.out.pl.shaped
  exact ⟨a1, a2, a3, a4, a5, a6, rfl, H, g⟩
theorem hd_6 {v : Value} {w : World} (hb : Pl w v hS3) : Calls Try.prog 11 #[v, .int .u64 12, .int .i64 4] w fun e w' => ∃ a1 a2 a3 a4 a5 a6, e = .returned (.tuple #[.int .u64 0, .agg #[.slice a1 3 a2, .int .i64 2, .int .i64 0, .slice a3 2 a4, .slice a5 2 a6], .bool false]) ∧ Hid (Plr w' w.heap.size (.agg #[.slice a1 3 a2, .int .i64 2, .int .i64 0, .slice a3 2 a4, .slice a5 2 a6]) hS3) ∧ Grew w w' := by
  refine (load_t (⟨by decide, by decide, by decide⟩ : hS3.Fits) 12 4 hb).mono ?_
  rintro e w' ⟨v', rfl, H, g⟩
  rw [show ldS hS3 12 4 = hS3 by kernel_rfl] at H
  rw [show badB hS3 12 4 = true by kernel_rfl, show ldY hS3 12 4 = 0 by kernel_rfl]
  obtain ⟨a1, a2, a3, a4, a5, a6, rfl⟩ := H.out.pl.shaped
  exact ⟨a1, a2, a3, a4, a5, a6, rfl, H, g⟩
theorem hd_7 {v : Value} {w : World} (hb : Pl w v hS3) : Calls Try.prog 16 #[v, .int .i64 0] w fun e w' => e = .returned (.int .i64 1) ∧ Grew w w' := by
  have := best_t 0 hb
  rwa [show bestS hS3 0 = 1 by kernel_rfl] at this
theorem hd_8 {v : Value} {w : World} (hb : Pl w v hS3) : Calls Try.prog 16 #[v, .int .i64 1] w fun e w' => e = .returned (.int .i64 0) ∧ Grew w w' := by
  have := best_t 1 hb
  rwa [show bestS hS3 1 = 0 by kernel_rfl] at this
theorem hd_9 {v : Value} {w : World} (hb : Pl w v hS4) : Calls Try.prog 7 #[v] w fun e w' => e = .returned (.bool true) ∧ Grew w w' := by
  have := check_c (Grew.refl w) hb
  rwa [show chk hS4 = true by kernel_rfl] at this
theorem hd_10 (w : World) : Calls Try.prog 7 #[.agg #[.slice none 0 0, .int .i64 0, .int .i64 0, .slice none 0 0, .slice none 0 0]] w fun e w' => e = .returned (.bool false) ∧ Grew w w' := by
  have hp : Pl w (.agg #[.slice none 0 0, .int .i64 0, .int .i64 0, .slice none 0 0, .slice none 0 0]) ⟨[], 0, 0, [], []⟩ := ⟨⟨_, _, _, rfl, Ints.Buf.nil w, Ints.Buf.nil w, Ints.Buf.nil w⟩, ⟨by decide, by decide⟩, ⟨by decide, by decide⟩⟩
  have := check_c (Grew.refl w) hp
  rwa [show chk ⟨[], 0, 0, [], []⟩ = false by kernel_rfl] at this

set_option maxHeartbeats 4000000 in
theorem heads_c {W w : World} (g : Grew W w) : Calls Try.prog 10 #[] w fun e w' => e = .returned (.bool true) ∧ Grew W w' := by
  have hgs := g.size
  go_enter Try.func10, Try.ntmps10
  go_wp2_with fail
  refine (new_t w).mono ?_
  rintro e w1 ⟨v1, rfl, H0, g1⟩
  go_wp2_with fail
  refine (hd_1 H0.out.pl).mono ?_
  rintro e w2 ⟨a1, a2, a3, a4, a5, a6, rfl, H1, g2⟩
  go_upto_region 2 with fail
  have gx := (Grew.refl w2).alloc (.cells #[.slice a1 3 a2, .int .i64 0, .int .i64 0, .slice a3 2 a4, .slice a5 2 a6] 24)
  have k1 : Blk (w2.alloc (.cells #[.slice a1 3 a2, .int .i64 0, .int .i64 0, .slice a3 2 a4, .slice a5 2 a6] 24)) w2.heap.size #[.slice a1 3 a2, .int .i64 0, .int .i64 0, .slice a3 2 a4, .slice a5 2 a6] 24 := Blk.new _ _ _ _ rfl
  have G3 := (((g.trans g1).trans g2)).trans gx
  have J3 := H1.out.pl.grew gx
  have hp : W.heap.size ≤ w2.heap.size := ((g.trans g1).trans g2).size
  clear g g1 g2 gx H1 H0
  generalize w2.alloc (.cells #[.slice a1 3 a2, .int .i64 0, .int .i64 0, .slice a3 2 a4, .slice a5 2 a6] 24) = w3 at *
  generalize w2.heap.size = A at *
  have y0 := k1.cell 0
  have y1 := k1.cell 1
  have y2 := k1.cell 2
  have y3 := k1.cell 3
  have y4 := k1.cell 4
  go_wp2_with fail
  refine (hd_2 J3).mono ?_
  rintro e w3' ⟨b1, b2, b3, b4, b5, b6, rfl, Hu4, gu4⟩
  clear y0 y1 y2 y3 y4
  have hAu4 := k1.lt
  have ku4' := k1.grew gu4
  have y0 := ku4'.cell 0
  have y1 := ku4'.cell 1
  have y2 := ku4'.cell 2
  have y3 := ku4'.cell 3
  have y4 := ku4'.cell 4
  have f0 := ku4'.free 0
  have f1 := ku4'.free 1
  have f2 := ku4'.free 2
  have f3 := ku4'.free 3
  have f4 := ku4'.free 4
  go_upto_region 3 with fail
  clear y0 y1 y2 y3 y4 f0 f1 f2 f3 f4
  have ku4 := (((((ku4'.set (o := 0) (.slice b1 3 b2)).set (o := 1) (.int .i64 0)).set (o := 2) (.int .i64 0)).set (o := 3) (.slice b3 2 b4)).set (o := 4) (.slice b5 2 b6))
  have Ju4 := (((((Hu4.out.set (c := A) (by omega) (o := 0) (.slice b1 3 b2)).set (c := A) (by omega) (o := 1) (.int .i64 0)).set (c := A) (by omega) (o := 2) (.int .i64 0)).set (c := A) (by omega) (o := 3) (.slice b3 2 b4)).set (c := A) (by omega) (o := 4) (.slice b5 2 b6))
  have Gu4 := ((((((G3.trans gu4).setCell (b := A) (o := 0) hp (.slice b1 3 b2)).setCell (b := A) (o := 1) hp (.int .i64 0)).setCell (b := A) (o := 2) hp (.int .i64 0)).setCell (b := A) (o := 3) hp (.slice b3 2 b4)).setCell (b := A) (o := 4) hp (.slice b5 2 b6))
  have Pu4 := Ju4.pl
  clear Hu4 Ju4 gu4 ku4' k1 J3 G3
  generalize (((((w3'.setCell ⟨A, 0, none⟩ (.slice b1 3 b2)).setCell ⟨A, 1, none⟩ (.int .i64 0)).setCell ⟨A, 2, none⟩ (.int .i64 0)).setCell ⟨A, 3, none⟩ (.slice b3 2 b4)).setCell ⟨A, 4, none⟩ (.slice b5 2 b6)) = u4 at *
  replace ku4 : Blk u4 A #[.slice b1 3 b2, .int .i64 0, .int .i64 0, .slice b3 2 b4, .slice b5 2 b6] 24 := ku4
  have y0 := ku4.cell 0
  have y1 := ku4.cell 1
  have y2 := ku4.cell 2
  have y3 := ku4.cell 3
  have y4 := ku4.cell 4
  go_wp2_with fail
  refine (hd_3 Pu4).mono ?_
  rintro e u4' ⟨c1, c2, c3, c4, c5, c6, rfl, Hu5, gu5⟩
  clear y0 y1 y2 y3 y4
  have hAu5 := ku4.lt
  have ku5' := ku4.grew gu5
  have y0 := ku5'.cell 0
  have y1 := ku5'.cell 1
  have y2 := ku5'.cell 2
  have y3 := ku5'.cell 3
  have y4 := ku5'.cell 4
  have f0 := ku5'.free 0
  have f1 := ku5'.free 1
  have f2 := ku5'.free 2
  have f3 := ku5'.free 3
  have f4 := ku5'.free 4
  go_upto_region 4 with fail
  clear y0 y1 y2 y3 y4 f0 f1 f2 f3 f4
  have ku5 := (((((ku5'.set (o := 0) (.slice c1 3 c2)).set (o := 1) (.int .i64 2)).set (o := 2) (.int .i64 0)).set (o := 3) (.slice c3 2 c4)).set (o := 4) (.slice c5 2 c6))
  have Ju5 := (((((Hu5.out.set (c := A) (by omega) (o := 0) (.slice c1 3 c2)).set (c := A) (by omega) (o := 1) (.int .i64 2)).set (c := A) (by omega) (o := 2) (.int .i64 0)).set (c := A) (by omega) (o := 3) (.slice c3 2 c4)).set (c := A) (by omega) (o := 4) (.slice c5 2 c6))
  have Gu5 := ((((((Gu4.trans gu5).setCell (b := A) (o := 0) hp (.slice c1 3 c2)).setCell (b := A) (o := 1) hp (.int .i64 2)).setCell (b := A) (o := 2) hp (.int .i64 0)).setCell (b := A) (o := 3) hp (.slice c3 2 c4)).setCell (b := A) (o := 4) hp (.slice c5 2 c6))
  have Pu5 := Ju5.pl
  clear Hu5 Ju5 gu5 ku5' ku4 Pu4 Gu4
  generalize (((((u4'.setCell ⟨A, 0, none⟩ (.slice c1 3 c2)).setCell ⟨A, 1, none⟩ (.int .i64 2)).setCell ⟨A, 2, none⟩ (.int .i64 0)).setCell ⟨A, 3, none⟩ (.slice c3 2 c4)).setCell ⟨A, 4, none⟩ (.slice c5 2 c6)) = u5 at *
  replace ku5 : Blk u5 A #[.slice c1 3 c2, .int .i64 2, .int .i64 0, .slice c3 2 c4, .slice c5 2 c6] 24 := ku5
  have y0 := ku5.cell 0
  have y1 := ku5.cell 1
  have y2 := ku5.cell 2
  have y3 := ku5.cell 3
  have y4 := ku5.cell 4
  go_wp2_with fail
  refine (hd_4 Pu5).mono ?_
  rintro e u5' ⟨d1, d2, d3, d4, d5, d6, rfl, Hu6, gu6⟩
  clear y0 y1 y2 y3 y4
  go_upto_region 5 with fail
  have gyu6 := gu6.trans ((Grew.refl u5').alloc (.cells #[.slice d1 3 d2, .int .i64 0, .int .i64 2, .slice d3 2 d4, .slice d5 2 d6] 24))
  have ku6 : Blk (u5'.alloc (.cells #[.slice d1 3 d2, .int .i64 0, .int .i64 2, .slice d3 2 d4, .slice d5 2 d6] 24)) u5'.heap.size #[.slice d1 3 d2, .int .i64 0, .int .i64 2, .slice d3 2 d4, .slice d5 2 d6] 24 := Blk.new _ _ _ _ rfl
  have Pu6 := Hu6.out.pl.grew ((Grew.refl u5').alloc (.cells #[.slice d1 3 d2, .int .i64 0, .int .i64 2, .slice d3 2 d4, .slice d5 2 d6] 24))
  have kA6 := ku5.grew gyu6
  have PA6 := Pu5.grew gyu6
  have G6 := Gu5.trans gyu6
  clear gu6 gyu6 Hu6 ku5 Pu5 Gu5
  generalize u5'.alloc (.cells #[.slice d1 3 d2, .int .i64 0, .int .i64 2, .slice d3 2 d4, .slice d5 2 d6] 24) = u6 at *
  generalize u5'.heap.size = Bu6 at *
  have y0 := ku6.cell 0
  have y1 := ku6.cell 1
  have y2 := ku6.cell 2
  have y3 := ku6.cell 3
  have y4 := ku6.cell 4
  go_wp2_with fail
  refine (hd_5 Pu6).mono ?_
  rintro e u6' ⟨e1, e2, e3, e4, e5, e6, rfl, Hu7, gu7⟩
  clear y0 y1 y2 y3 y4
  go_upto_region 6 with fail
  have gyu7 := gu7.trans ((Grew.refl u6').alloc (.cells #[.slice e1 3 e2, .int .i64 0, .int .i64 2, .slice e3 2 e4, .slice e5 2 e6] 24))
  have ku7 : Blk (u6'.alloc (.cells #[.slice e1 3 e2, .int .i64 0, .int .i64 2, .slice e3 2 e4, .slice e5 2 e6] 24)) u6'.heap.size #[.slice e1 3 e2, .int .i64 0, .int .i64 2, .slice e3 2 e4, .slice e5 2 e6] 24 := Blk.new _ _ _ _ rfl
  have Pu7 := Hu7.out.pl.grew ((Grew.refl u6').alloc (.cells #[.slice e1 3 e2, .int .i64 0, .int .i64 2, .slice e3 2 e4, .slice e5 2 e6] 24))
  have kA7 := kA6.grew gyu7
  have PA7 := PA6.grew gyu7
  have G7 := G6.trans gyu7
  have kB7 := ku6.grew gyu7
  have PB7 := Pu6.grew gyu7
  clear gu7 gyu7 Hu7 kA6 PA6 G6 ku6 Pu6
  generalize u6'.alloc (.cells #[.slice e1 3 e2, .int .i64 0, .int .i64 2, .slice e3 2 e4, .slice e5 2 e6] 24) = u7 at *
  generalize u6'.heap.size = Bu7 at *
  have y0 := kA7.cell 0
  have y1 := kA7.cell 1
  have y2 := kA7.cell 2
  have y3 := kA7.cell 3
  have y4 := kA7.cell 4
  go_wp2_with fail
  refine (hd_6 PA7).mono ?_
  rintro e u7' ⟨h1, h2, h3, h4, h5, h6, rfl, Hu8, gu8⟩
  clear y0 y1 y2 y3 y4
  go_upto_region 7 with fail
  have gyu8 := gu8.trans ((Grew.refl u7').alloc (.cells #[.slice h1 3 h2, .int .i64 2, .int .i64 0, .slice h3 2 h4, .slice h5 2 h6] 24))
  have ku8 : Blk (u7'.alloc (.cells #[.slice h1 3 h2, .int .i64 2, .int .i64 0, .slice h3 2 h4, .slice h5 2 h6] 24)) u7'.heap.size #[.slice h1 3 h2, .int .i64 2, .int .i64 0, .slice h3 2 h4, .slice h5 2 h6] 24 := Blk.new _ _ _ _ rfl
  have Pu8 := Hu8.out.pl.grew ((Grew.refl u7').alloc (.cells #[.slice h1 3 h2, .int .i64 2, .int .i64 0, .slice h3 2 h4, .slice h5 2 h6] 24))
  have kA8 := kA7.grew gyu8
  have PA8 := PA7.grew gyu8
  have G8 := G7.trans gyu8
  have kB8 := kB7.grew gyu8
  have PB8 := PB7.grew gyu8
  clear gu8 gyu8 Hu8 kA7 PA7 G7 kB7 PB7
  generalize u7'.alloc (.cells #[.slice h1 3 h2, .int .i64 2, .int .i64 0, .slice h3 2 h4, .slice h5 2 h6] 24) = u8 at *
  generalize u7'.heap.size = Bu8 at *
  clear ku7 Pu7 ku8 Pu8
  have y0 := kA8.cell 0
  have y1 := kA8.cell 1
  have y2 := kA8.cell 2
  have y3 := kA8.cell 3
  have y4 := kA8.cell 4
  go_wp2_with fail
  refine (hd_7 PA8).mono ?_
  rintro e u9 ⟨rfl, g9⟩
  clear y0 y1 y2 y3 y4
  have kA9 := kA8.grew g9
  have y0 := kA9.cell 0
  have y1 := kA9.cell 1
  have y2 := kA9.cell 2
  have y3 := kA9.cell 3
  have y4 := kA9.cell 4
  go_wp2_with fail
  refine (hd_8 (PA8.grew g9)).mono ?_
  rintro e u10 ⟨rfl, g10⟩
  clear y0 y1 y2 y3 y4
  have kB10 := (kB8.grew g9).grew g10
  have y0 := kB10.cell 0
  have y1 := kB10.cell 1
  have y2 := kB10.cell 2
  have y3 := kB10.cell 3
  have y4 := kB10.cell 4
  go_wp2_with fail
  refine (hd_9 ((PB8.grew g9).grew g10)).mono ?_
  rintro e u11 ⟨rfl, g11⟩
  clear y0 y1 y2 y3 y4
  go_wp2_with fail
  refine (hd_10 u11).mono ?_
  rintro e u12 ⟨rfl, g12⟩
  go_wp2_with fail
  go_ret
  exact ⟨rfl, (((G8.trans g9).trans g10).trans g11).trans g12⟩
end Go.Proofs.Ytpanecflmoebiaa
