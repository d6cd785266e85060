/-
  A parameter that is a controller, opened; what must come at any rate ('heads' of the statements about package plic).
-/
import Derived.Test.YtgcfmijkggpemaaGreatPlS
import Derived.Test.YtgcfmijkggpemaaGreatLaw
import Derived.Deep.Fields
import Derived.ChangeArms
import Derived.SizedLaws
set_option maxRecDepth 4000
set_option linter.unusedVariables false
set_option linter.unusedSimpArgs false
namespace Go.Proofs.YtgcfmijkggpemaaGreat
open Go.RowKit

section
open Go.ChangeShapes Go.WideShapes Go.Deep
variable {H : Type} {enc : TypeId × Value → H} {w : World} {base : Nat} {spare : Nat → Bool} {held : Bool}
theorem open_plic {r : Reach} {b0 : Nat} {v : Value} {D : DataW H} {p : List MemPlace} (hv : Value.okWide Tryz.prog w r b0 30 v) (h : DataW.Trod enc Tryz.prog w base spare held 30 v D p) :
    ∃ (s : PS) (a1 : Option Addr) (c1 : Nat) (a2 : Option Addr) (c2 : Nat) (a3 : Option Addr) (c3 : Nat), v = plV s a1 c1 a2 c2 a3 c3 ∧ Pl w (plV s a1 c1 a2 c2 a3 c3) s ∧ ((∀ m ∈ D.weights Tryz.prog 30, m ≤ reachBytes) → s.Fits) := by
  have hs := Tryz.underlying30
  obtain ⟨⟨l⟩, rfl, hsz⟩ := okWide_struct hs hv
  rw [show Tryz.prog.cellsOf 30 = 5 by kernel_rfl] at hsz
  obtain ⟨fuel, hf⟩ := h
  obtain ⟨xs, n, _, hx, _, hl, hg⟩ := DataW.trod_struct hs hf
  have k0 : Tryz.prog.cellsOf 28 = 1 := by kernel_rfl
  have k1 : Tryz.prog.cellsOf 3 = 1 := by kernel_rfl
  have kb : Tryz.prog.bytesOf 3 = 8 := by kernel_rfl
  match l, hsz, xs, hl with
  | [c0, c1, c2, c3, c4], _, [y0, y1, y2, y3, y4], _ =>
    have g0 : DataW.trod enc Tryz.prog w base spare held n 28 [c0] = some y0 := by
      have := hg 0 _ rfl
      simpa [Value.cells, k0, k1] using this
    have g1 : DataW.trod enc Tryz.prog w base spare held n 3 [c1] = some y1 := by
      have := hg 1 _ rfl
      simpa [Value.cells, k0, k1] using this
    have g2 : DataW.trod enc Tryz.prog w base spare held n 3 [c2] = some y2 := by
      have := hg 2 _ rfl
      simpa [Value.cells, k0, k1] using this
    have g3 : DataW.trod enc Tryz.prog w base spare held n 28 [c3] = some y3 := by
      have := hg 3 _ rfl
      simpa [Value.cells, k0, k1] using this
    have g4 : DataW.trod enc Tryz.prog w base spare held n 28 [c4] = some y4 := by
      have := hg 4 _ rfl
      simpa [Value.cells, k0, k1] using this
    obtain ⟨x0, b0', w0⟩ := Ints.buf_of_trod_w Tryz.underlying28 Tryz.underlying3 (by kernel_rfl) g0
    obtain ⟨N, e1, _, wN⟩ := DataW.trod_int Tryz.underlying3 g1
    obtain ⟨K, e2, _, wK⟩ := DataW.trod_int Tryz.underlying3 g2
    obtain ⟨x3, b3, w3⟩ := Ints.buf_of_trod_w Tryz.underlying28 Tryz.underlying3 (by kernel_rfl) g3
    obtain ⟨x4, b4, w4⟩ := Ints.buf_of_trod_w Tryz.underlying28 Tryz.underlying3 (by kernel_rfl) g4
    obtain rfl : c1 = _ := by simpa using e1
    obtain rfl : c2 = _ := by simpa using e2
    obtain ⟨a0, q0, rfl, _, _⟩ := b0'.shape
    obtain ⟨a3, q3, rfl, _, _⟩ := b3.shape
    obtain ⟨a4, q4, rfl, _, _⟩ := b4.shape
    refine ⟨⟨x0, N, K, x3, x4⟩, a0, q0, a3, q3, a4, q4, rfl, ⟨⟨_, _, _, rfl, b0', b3, b4⟩, wf_i64 wN, wf_i64 wK⟩, fun hw => ?_⟩
    have hD : D = .agg [y0.1, y1.1, y2.1, y3.1, y4.1] := by have := congrArg Prod.fst hx; simpa using this
    have hin : ∀ (j : Nat) (t : TypeId) (d : DataW H), [28, 3, 3, 28, 28][j]? = some t → [y0.1, y1.1, y2.1, y3.1, y4.1][j]? = some d → ∀ m ∈ d.weights Tryz.prog t, m ≤ reachBytes := fun j t d h1 h2 m hm => by
      refine hw m ?_
      rw [hD]
      simp only [DataW.weights, hs]
      exact DataW.weights_mem_each h1 h2 m hm
    have r0 := w0 reachBytes (hin 0 _ _ rfl rfl)
    have r3 := w3 reachBytes (hin 3 _ _ rfl rfl)
    have r4 := w4 reachBytes (hin 4 _ _ rfl rfl)
    rw [kb] at r0 r3 r4
    unfold reachBytes at r0 r3 r4
    exact ⟨by show x0.length ≤ _; omega, by show x3.length ≤ _; omega, by show x4.length ≤ _; omega⟩
end

def hS1 : PS := ⟨[0, 3, 0], 0, 0, [0, 0], [0, 0]⟩
def hS2 : PS := ⟨[0, 3, 0], 0, 0, [2, 0], [0, 0]⟩
def hS3 : PS := ⟨[0, 3, 0], 2, 0, [2, 0], [0, 0]⟩
def hS4 : PS := ⟨[0, 3, 0], 0, 2, [2, 0], [0, 0]⟩
theorem plHd_1 {v : Value} {w : World} (hb : Pl w v newV.ps) : Calls Tryz.prog 52 #[v, .int .u64 4, .int .i64 4, .int .u64 3] w fun e w' => ∃ a1 a2 a3 a4 a5 a6, e = .returned (.tuple #[.agg #[.slice a1 3 a2, .int .i64 0, .int .i64 0, .slice a3 2 a4, .slice a5 2 a6], .bool true]) ∧ Hid (Plr w' w.heap.size (.agg #[.slice a1 3 a2, .int .i64 0, .int .i64 0, .slice a3 2 a4, .slice a5 2 a6]) hS1) ∧ Grew w w' := by
  refine (store_t newV.fits 4 4 3 (by omega) (by omega) hb).mono ?_
  rintro e w' ⟨v', rfl, H, g⟩
  rw [show plStS newV.ps 4 4 3 = hS1 by kernel_rfl] at H
  rw [show badB newV.ps 4 4 = false by kernel_rfl]
  obtain ⟨a1, a2, a3, a4, a5, a6, rfl⟩ := H.out.pl.shaped
  exact ⟨a1, a2, a3, a4, a5, a6, rfl, H, g⟩
theorem plHd_2 {v : Value} {w : World} (hb : Pl w v hS1) : Calls Tryz.prog 52 #[v, .int .u64 8192, .int .i64 4, .int .u64 2] w fun e w' => ∃ a1 a2 a3 a4 a5 a6, e = .returned (.tuple #[.agg #[.slice a1 3 a2, .int .i64 0, .int .i64 0, .slice a3 2 a4, .slice a5 2 a6], .bool true]) ∧ Hid (Plr w' w.heap.size (.agg #[.slice a1 3 a2, .int .i64 0, .int .i64 0, .slice a3 2 a4, .slice a5 2 a6]) hS2) ∧ Grew w w' := by
  refine (store_t (⟨by decide, by decide, by decide⟩ : hS1.Fits) 8192 4 2 (by omega) (by omega) hb).mono ?_
  rintro e w' ⟨v', rfl, H, g⟩
  rw [show plStS hS1 8192 4 2 = hS2 by kernel_rfl] at H
  rw [show badB hS1 8192 4 = false by kernel_rfl]
  obtain ⟨a1, a2, a3, a4, a5, a6, rfl⟩ := H.out.pl.shaped
  exact ⟨a1, a2, a3, a4, a5, a6, rfl, H, g⟩
theorem plHd_3 {v : Value} {w : World} (hb : Pl w v hS2) : Calls Tryz.prog 20 #[v, .int .i64 2] w fun e w' => ∃ a1 a2 a3 a4 a5 a6, e = .returned (.agg #[.slice a1 3 a2, .int .i64 2, .int .i64 0, .slice a3 2 a4, .slice a5 2 a6]) ∧ Hid (Plr w' w.heap.size (.agg #[.slice a1 3 a2, .int .i64 2, .int .i64 0, .slice a3 2 a4, .slice a5 2 a6]) hS3) ∧ Grew w w' := by
  refine (set_t (⟨by decide, by decide, by decide⟩ : hS2.Fits) 2 hb).mono ?_
  rintro e w' ⟨v', rfl, H, g⟩
  rw [show setS hS2 2 = hS3 by kernel_rfl] at H
  obtain ⟨a1, a2, a3, a4, a5, a6, rfl⟩ := H.out.pl.shaped
  exact ⟨a1, a2, a3, a4, a5, a6, rfl, H, g⟩
theorem plHd_4 {v : Value} {w : World} (hb : Pl w v hS3) : Calls Tryz.prog 50 #[v, .int .u64 2097156, .int .i64 4] w fun e w' => ∃ a1 a2 a3 a4 a5 a6, e = .returned (.tuple #[.int .u64 1, .agg #[.slice a1 3 a2, .int .i64 0, .int .i64 2, .slice a3 2 a4, .slice a5 2 a6], .bool true]) ∧ Hid (Plr w' w.heap.size (.agg #[.slice a1 3 a2, .int .i64 0, .int .i64 2, .slice a3 2 a4, .slice a5 2 a6]) hS4) ∧ Grew w w' := by
  refine (load_t (⟨by decide, by decide, by decide⟩ : hS3.Fits) 2097156 4 hb).mono ?_
  rintro e w' ⟨v', rfl, H, g⟩
  rw [show plLdS hS3 2097156 4 = hS4 by kernel_rfl] at H
  rw [show badB hS3 2097156 4 = false by kernel_rfl, show plLdY hS3 2097156 4 = 1 by kernel_rfl]
  obtain ⟨a1, a2, a3, a4, a5, a6, rfl⟩ := H.out.pl.shaped
  exact ⟨a1, a2, a3, a4, a5, a6, rfl, H, g⟩
theorem plHd_5 {v : Value} {w : World} (hb : Pl w v hS4) : Calls Tryz.prog 50 #[v, .int .u64 2097156, .int .i64 4] w fun e w' => ∃ a1 a2 a3 a4 a5 a6, e = .returned (.tuple #[.int .u64 0, .agg #[.slice a1 3 a2, .int .i64 0, .int .i64 2, .slice a3 2 a4, .slice a5 2 a6], .bool true]) ∧ Hid (Plr w' w.heap.size (.agg #[.slice a1 3 a2, .int .i64 0, .int .i64 2, .slice a3 2 a4, .slice a5 2 a6]) hS4) ∧ Grew w w' := by
  refine (load_t (⟨by decide, by decide, by decide⟩ : hS4.Fits) 2097156 4 hb).mono ?_
  rintro e w' ⟨v', rfl, H, g⟩
  rw [show plLdS hS4 2097156 4 = hS4 by kernel_rfl] at H
  rw [show badB hS4 2097156 4 = false by kernel_rfl, show plLdY hS4 2097156 4 = 0 by kernel_rfl]
  obtain ⟨a1, a2, a3, a4, a5, a6, rfl⟩ := H.out.pl.shaped
  exact ⟨a1, a2, a3, a4, a5, a6, rfl, H, g⟩
theorem plHd_6 {v : Value} {w : World} (hb : Pl w v hS3) : Calls Tryz.prog 50 #[v, .int .u64 12, .int .i64 4] w fun e w' => ∃ a1 a2 a3 a4 a5 a6, e = .returned (.tuple #[.int .u64 0, .agg #[.slice a1 3 a2, .int .i64 2, .int .i64 0, .slice a3 2 a4, .slice a5 2 a6], .bool false]) ∧ Hid (Plr w' w.heap.size (.agg #[.slice a1 3 a2, .int .i64 2, .int .i64 0, .slice a3 2 a4, .slice a5 2 a6]) hS3) ∧ Grew w w' := by
  refine (load_t (⟨by decide, by decide, by decide⟩ : hS3.Fits) 12 4 hb).mono ?_
  rintro e w' ⟨v', rfl, H, g⟩
  rw [show plLdS hS3 12 4 = hS3 by kernel_rfl] at H
  rw [show badB hS3 12 4 = true by kernel_rfl, show plLdY hS3 12 4 = 0 by kernel_rfl]
  obtain ⟨a1, a2, a3, a4, a5, a6, rfl⟩ := H.out.pl.shaped
  exact ⟨a1, a2, a3, a4, a5, a6, rfl, H, g⟩
theorem plHd_7 {v : Value} {w : World} (hb : Pl w v hS3) : Calls Tryz.prog 24 #[v, .int .i64 0] w fun e w' => e = .returned (.int .i64 1) ∧ Grew w w' := by
  have := best_t 0 hb
  rwa [show bestS hS3 0 = 1 by kernel_rfl] at this
theorem plHd_8 {v : Value} {w : World} (hb : Pl w v hS3) : Calls Tryz.prog 24 #[v, .int .i64 1] w fun e w' => e = .returned (.int .i64 0) ∧ Grew w w' := by
  have := best_t 1 hb
  rwa [show bestS hS3 1 = 0 by kernel_rfl] at this
theorem plHd_9 {v : Value} {w : World} (hb : Pl w v hS4) : Calls Tryz.prog 36 #[v] w fun e w' => e = .returned (.bool true) ∧ Grew w w' := by
  have := plCheck_c (Grew.refl w) hb
  rwa [show plChk hS4 = true by kernel_rfl] at this
theorem plHd_10 (w : World) : Calls Tryz.prog 36 #[.agg #[.slice none 0 0, .int .i64 0, .int .i64 0, .slice none 0 0, .slice none 0 0]] w fun e w' => e = .returned (.bool false) ∧ Grew w w' := by
  have hp : Pl w (.agg #[.slice none 0 0, .int .i64 0, .int .i64 0, .slice none 0 0, .slice none 0 0]) ⟨[], 0, 0, [], []⟩ := ⟨⟨_, _, _, rfl, Ints.Buf.nil w, Ints.Buf.nil w, Ints.Buf.nil w⟩, ⟨by decide, by decide⟩, ⟨by decide, by decide⟩⟩
  have := plCheck_c (Grew.refl w) hp
  rwa [show plChk ⟨[], 0, 0, [], []⟩ = false by kernel_rfl] at this

end Go.Proofs.YtgcfmijkggpemaaGreat
