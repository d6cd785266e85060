/-
  Parameters that are a controller, or memory, opened; plain facts of what calls of package nic leave.
-/
import Derived.Test.YtoehdhhodidehaaRows
import Derived.Test.YtoehdhhodidehaaNcX
import Derived.Test.YtoehdhhodidehaaLaw
import Derived.WalkKit
import Derived.Outline
import Derived.Handy
import Derived.StillTailTactics
import Derived.Deep.QuietTactic
import Derived.BigQuiet
import Derived.Deep.DeepCutAuto
import Derived.Deep.RegionHeld3
import Derived.Great.BuildSlice
import Derived.Deep.WholeRow
import Derived.Lib.SliceRun
import Derived.Deep.Fields
import Derived.ChangeArms
import Derived.SizedLaws
import Derived.BigFrame
set_option maxRecDepth 4000
set_option linter.unusedVariables false
set_option linter.unusedSimpArgs false
namespace Go.Proofs.Ytoehdhhodidehaa
open Go.RowKit

section
open Go.ChangeShapes Go.WideShapes Go.Deep
variable {H : Type} {enc : TypeId × Value → H}
theorem buf_of_trod_w {P : Program} {W : World} {base : Nat} {spare : Nat → Bool} {held : Bool} {t e : TypeId} {v : Value} {fuel : Nat} {x : DataW H × List MemPlace} (ht : P.underlying t = some (.slice e)) (he : P.underlying e = some (.int .u8)) (hc : P.cellsOf e = 1)
    (hd : DataW.trod enc P W base spare held fuel t [v] = some x) : ∃ xs, Buf W v xs ∧ ∀ n, (∀ m ∈ x.1.weights P t, m ≤ n) → xs.length * P.bytesOf e ≤ n := by
  rcases open_ints ht he hc hd with ⟨h1, _⟩ | ⟨a', len', cap', zs, h1, _, h3, h4, h5, hx, h7, h8⟩
  · obtain rfl : v = .slice none 0 0 := by simpa using h1
    exact ⟨[], Buf.nil W, fun n _ => by simp⟩
  · obtain rfl : v = .slice (some a') len' cap' := by simpa using h1
    have hlz : len' ≤ zs.length := by rw [h5]; split <;> omega
    have hb : ∀ x ∈ zs, 0 ≤ x ∧ x < 256 := fun x hx => by have := bounds_u8 (h8 x hx); omega
    have hl : (zs.take len').length = len' := by simp; omega
    refine ⟨zs.take len', ⟨⟨some a', cap', by rw [hl], by omega, fun hne => ?_⟩, fun x hx => hb x (List.mem_of_mem_take hx), by omega⟩, fun n hn => ?_⟩
    · have h0 : 0 < len' := by rw [← hl]; exact List.length_pos_iff.2 hne
      obtain ⟨b, off, rfl, hc2⟩ := ints_at h7 (by omega)
      refine ⟨b, off, rfl, fun i hi => ?_⟩
      rw [hl] at hi
      rw [hc2 i (by omega)]
      simp only [List.getD_eq_getElem?_getD]
      rw [List.getElem?_take_of_lt (by omega)]
    · have h9 := hn (((lits (H := H) .u8 (zs.take len')).length + (lits (H := H) .u8 (zs.drop len')).length) * P.bytesOf e) (by rw [hx]; simp [DataW.weights, ht])
      have hlit : (lits (H := H) .u8 (zs.take len')).length = len' := by simp [lits]; omega
      rw [hlit] at h9
      rw [hl]
      exact Nat.le_trans (Nat.mul_le_mul_right _ (Nat.le_add_right _ _)) h9
variable {w : World} {base : Nat} {spare : Nat → Bool} {held : Bool}
theorem open_ram {r : Reach} {b0 : Nat} {v : Value} {D : DataW H} {p : List MemPlace} (hv : Value.okWide Try.prog w r b0 27 v) (h : DataW.Trod enc Try.prog w base spare held 27 v D p) :
    ∃ (a : Option Addr) (n c : Nat) (xs : List Int), v = .agg #[.slice a n c] ∧ Buf w (.slice a n c) xs := by
  have hs := Try.underlying27
  obtain ⟨⟨l⟩, rfl, hsz⟩ := okWide_struct hs hv
  rw [show Try.prog.cellsOf 27 = 1 by kernel_rfl] at hsz
  obtain ⟨fuel, hf⟩ := h
  obtain ⟨xs, n, _, _, _, hl, hg⟩ := DataW.trod_struct hs hf
  have k0 : Try.prog.cellsOf 23 = 1 := by kernel_rfl
  match l, hsz, xs, hl with
  | [c0], _, [y0], _ =>
    have g0 : DataW.trod enc Try.prog w base spare held n 23 [c0] = some y0 := by
      have := hg 0 _ rfl
      simpa [Value.cells, k0] using this
    obtain ⟨xs, hb⟩ := buf_of_trod Try.underlying23 Try.underlying5 (by kernel_rfl) g0
    obtain ⟨a, c, rfl, _, _⟩ := hb.shape
    exact ⟨a, _, c, xs, rfl, hb⟩
set_option maxHeartbeats 2000000 in
theorem open_nic {r : Reach} {b0 : Nat} {v : Value} {D : DataW H} {p : List MemPlace} (hv : Value.okWide Try.prog w r b0 25 v) (h : DataW.Trod enc Try.prog w base spare held 25 v D p) :
    ∃ (c : Nat → Int) (m : List Int) (a : Option Addr) (k : Nat), v = ncV c (.slice a m.length k) ∧ Buf w (.slice a m.length k) m ∧ MacOf c m ∧ ((∀ m ∈ D.weights Try.prog 25, m ≤ reachBytes) → m.length ≤ 140737488355328) := by
  have hs := Try.underlying25
  obtain ⟨⟨l⟩, rfl, hsz⟩ := okWide_struct hs hv
  rw [show Try.prog.cellsOf 25 = 14 by kernel_rfl] at hsz
  obtain ⟨fuel, hf⟩ := h
  obtain ⟨xs, n, _, hx, _, hl, hg⟩ := DataW.trod_struct hs hf
  have k0 : Try.prog.cellsOf 23 = 1 := by kernel_rfl
  have k1 : Try.prog.cellsOf 3 = 1 := by kernel_rfl
  have k2 : Try.prog.cellsOf 22 = 1 := by kernel_rfl
  have kb : Try.prog.bytesOf 5 = 1 := by kernel_rfl
  match l, hsz, xs, hl with
  | [c0, c1, c2, c3, c4, c5, c6, c7, c8, c9, c10, c11, c12, c13], _, [y0, y1, y2, y3, y4, y5, y6, y7, y8, y9, y10, y11, y12, y13], _ =>
    have g0 : DataW.trod enc Try.prog w base spare held n 3 [c0] = some y0 := by
      have := hg 0 _ rfl
      simpa [Value.cells, k0, k1, k2] using this
    have g1 : DataW.trod enc Try.prog w base spare held n 3 [c1] = some y1 := by
      have := hg 1 _ rfl
      simpa [Value.cells, k0, k1, k2] using this
    have g2 : DataW.trod enc Try.prog w base spare held n 3 [c2] = some y2 := by
      have := hg 2 _ rfl
      simpa [Value.cells, k0, k1, k2] using this
    have g3 : DataW.trod enc Try.prog w base spare held n 22 [c3] = some y3 := by
      have := hg 3 _ rfl
      simpa [Value.cells, k0, k1, k2] using this
    have g4 : DataW.trod enc Try.prog w base spare held n 3 [c4] = some y4 := by
      have := hg 4 _ rfl
      simpa [Value.cells, k0, k1, k2] using this
    have g5 : DataW.trod enc Try.prog w base spare held n 3 [c5] = some y5 := by
      have := hg 5 _ rfl
      simpa [Value.cells, k0, k1, k2] using this
    have g6 : DataW.trod enc Try.prog w base spare held n 3 [c6] = some y6 := by
      have := hg 6 _ rfl
      simpa [Value.cells, k0, k1, k2] using this
    have g7 : DataW.trod enc Try.prog w base spare held n 22 [c7] = some y7 := by
      have := hg 7 _ rfl
      simpa [Value.cells, k0, k1, k2] using this
    have g8 : DataW.trod enc Try.prog w base spare held n 3 [c8] = some y8 := by
      have := hg 8 _ rfl
      simpa [Value.cells, k0, k1, k2] using this
    have g9 : DataW.trod enc Try.prog w base spare held n 3 [c9] = some y9 := by
      have := hg 9 _ rfl
      simpa [Value.cells, k0, k1, k2] using this
    have g10 : DataW.trod enc Try.prog w base spare held n 3 [c10] = some y10 := by
      have := hg 10 _ rfl
      simpa [Value.cells, k0, k1, k2] using this
    have g11 : DataW.trod enc Try.prog w base spare held n 3 [c11] = some y11 := by
      have := hg 11 _ rfl
      simpa [Value.cells, k0, k1, k2] using this
    have g12 : DataW.trod enc Try.prog w base spare held n 3 [c12] = some y12 := by
      have := hg 12 _ rfl
      simpa [Value.cells, k0, k1, k2] using this
    have g13 : DataW.trod enc Try.prog w base spare held n 23 [c13] = some y13 := by
      have := hg 13 _ rfl
      simpa [Value.cells, k0, k1, k2] using this
    obtain ⟨m0, e0, _, w0⟩ := DataW.trod_int Try.underlying3 g0
    obtain rfl : c0 = _ := by simpa using e0
    obtain ⟨m1, e1, _, w1⟩ := DataW.trod_int Try.underlying3 g1
    obtain rfl : c1 = _ := by simpa using e1
    obtain ⟨m2, e2, _, w2⟩ := DataW.trod_int Try.underlying3 g2
    obtain rfl : c2 = _ := by simpa using e2
    obtain ⟨m3, e3, _, w3⟩ := DataW.trod_int Try.underlying22 g3
    obtain rfl : c3 = _ := by simpa using e3
    obtain ⟨m4, e4, _, w4⟩ := DataW.trod_int Try.underlying3 g4
    obtain rfl : c4 = _ := by simpa using e4
    obtain ⟨m5, e5, _, w5⟩ := DataW.trod_int Try.underlying3 g5
    obtain rfl : c5 = _ := by simpa using e5
    obtain ⟨m6, e6, _, w6⟩ := DataW.trod_int Try.underlying3 g6
    obtain rfl : c6 = _ := by simpa using e6
    obtain ⟨m7, e7, _, w7⟩ := DataW.trod_int Try.underlying22 g7
    obtain rfl : c7 = _ := by simpa using e7
    obtain ⟨m8, e8, _, w8⟩ := DataW.trod_int Try.underlying3 g8
    obtain rfl : c8 = _ := by simpa using e8
    obtain ⟨m9, e9, _, w9⟩ := DataW.trod_int Try.underlying3 g9
    obtain rfl : c9 = _ := by simpa using e9
    obtain ⟨m10, e10, _, w10⟩ := DataW.trod_int Try.underlying3 g10
    obtain rfl : c10 = _ := by simpa using e10
    obtain ⟨m11, e11, _, w11⟩ := DataW.trod_int Try.underlying3 g11
    obtain rfl : c11 = _ := by simpa using e11
    obtain ⟨m12, e12, _, w12⟩ := DataW.trod_int Try.underlying3 g12
    obtain rfl : c12 = _ := by simpa using e12
    obtain ⟨x13, hb, hw13⟩ := buf_of_trod_w Try.underlying23 Try.underlying5 (by kernel_rfl) g13
    obtain ⟨a, k, rfl, _, _⟩ := hb.shape
    refine ⟨fun i => [m0, m1, m2, m3, m4, m5, m6, m7, m8, m9, m10, m11, m12, getV (cutL x13 0 4) false, getV (cutL x13 4 6) false].getD i 0, x13, a, k, rfl, hb, ⟨rfl, rfl, (wf_u64 w3).1, (wf_u64 w7).1⟩, fun hw => ?_⟩
    have hD : D = .agg [y0.1, y1.1, y2.1, y3.1, y4.1, y5.1, y6.1, y7.1, y8.1, y9.1, y10.1, y11.1, y12.1, y13.1] := by have := congrArg Prod.fst hx; simpa using this
    have hin : ∀ m ∈ y13.1.weights Try.prog 23, m ≤ reachBytes := fun m hm => by
      refine hw m ?_
      rw [hD]
      simp only [DataW.weights, hs]
      exact DataW.weights_mem_each (j := 13) (t := 23) (d := y13.1) rfl rfl m hm
    have r0 := hw13 reachBytes hin
    rw [kb] at r0
    unfold reachBytes at r0
    omega
end

/-! ### What calls leave -/
theorem MacOf.of {c c' : Nat → Int} {m : List Int} (h : MacOf c m) (hc : ROk c') (e1 : c' 13 = c 13) (e2 : c' 14 = c 14) : MacOf c' m := ⟨by rw [e1]; exact h.lo, by rw [e2]; exact h.hi, hc.r3.1, hc.r7.1⟩
theorem sendR_len (c : Nat → Int) (xs : List Int) : (sendR c xs).xs.length = xs.length := by
  unfold sendR
  repeat' split
  all_goals dsimp only
  all_goals first | rfl | rw [writeV_length]
theorem recvR_len (c : Nat → Int) (xs fs : List Int) : (recvR c xs fs).xs.length = xs.length := by
  unfold recvR
  repeat' split
  all_goals dsimp only
  all_goals first | rfl | (rw [writeV_length, fillV_length, writeV_length]; done) | (rw [writeV_length]; done)
theorem sendR_frame (c : Nat → Int) (xs : List Int) : (sendR c xs).f.length = 0 ∨ 14 ≤ (sendR c xs).f.length ∧ (sendR c xs).f.length ≤ 1514 := by
  unfold sendR
  split
  · split
    · split
      · split
        · rename_i h
          simp only [Bool.and_eq_true] at h
          have h2 := bytesV_len h.1
          have h3 := h.2
          unfold frameB at h3
          simp only [Bool.and_eq_true, decide_eq_true_eq] at h3
          right
          show 14 ≤ (bytesV _ _ _).length ∧ (bytesV _ _ _).length ≤ 1514
          omega
        · exact .inl rfl
      · exact .inl rfl
    · exact .inl rfl
  · exact .inl rfl
theorem stS_ok {c : Nat → Int} (h : ROk c) (n : Nat) (off x : Int) (hx : 0 ≤ x) : ROk (stS c n off 4 x) := by
  unfold stS
  split
  · exact h
  · exact h.st (by omega) (by omega) _
end Go.Proofs.Ytoehdhhodidehaa
