/-
  The document's own Receive of every controller, memory and frame.
-/
import Derived.Test.YtoehdhhodidehaaNcRx
set_option maxRecDepth 4000
set_option linter.unusedVariables false
set_option linter.unusedSimpArgs false
namespace Go.Proofs.Ytoehdhhodidehaa
open Go.RowKit

theorem rRecv_pass {c : Nat → Int} {m fs : List Int} (hc : ROk c) (hi : MacIs c m) (hm : AreBytes m) (ht : takesB c fs = true) (hw : waitsr c = true) :
    ¬ (fs.length : Int) < 14 ∧ ¬ 1514 < (fs.length : Int) ∧ (c 0 / 2 % 2 == 0) = false ∧ wantedB c m fs = true ∧ (c 9 == c 10) = false := by
  have hf : frameB fs.length = true := by unfold takesB at ht; simp only [Bool.and_eq_true] at ht; exact ht.1
  have hwt := wanted_takes hc.r0.1 hc.r0.2 hi hm hf
  unfold frameB at hf
  simp only [Bool.and_eq_true, decide_eq_true_eq] at hf
  unfold waitsr bitB at hw
  simp only [Bool.and_eq_true, beq_iff_eq, bne_iff_ne, ne_eq] at hw
  refine ⟨by omega, by omega, ?_, by rw [hwt]; exact ht, ?_⟩
  · simp only [beq_eq_false_iff_ne, ne_eq]; omega
  · simpa using hw.2
theorem rRecv_idle {c : Nat → Int} {m fs : List Int} (hc : ROk c) (hi : MacIs c m) (hm : AreBytes m) (h : takesB c fs = false ∨ waitsr c = false) :
    (fs.length : Int) < 14 ∨ (¬ (fs.length : Int) < 14 ∧ 1514 < (fs.length : Int)) ∨ ((¬ (fs.length : Int) < 14 ∧ ¬ 1514 < (fs.length : Int)) ∧ ((c 0 / 2 % 2 == 0) = true ∨ (c 0 / 2 % 2 == 0) = false ∧ (wantedB c m fs = false ∨ wantedB c m fs = true ∧ (c 9 == c 10) = true))) := by
  by_cases h1 : (fs.length : Int) < 14
  · exact .inl h1
  by_cases h2 : 1514 < (fs.length : Int)
  · exact .inr (.inl ⟨h1, h2⟩)
  refine .inr (.inr ⟨⟨h1, h2⟩, ?_⟩)
  have hf : frameB fs.length = true := by unfold frameB; simp only [Bool.and_eq_true, decide_eq_true_eq]; omega
  have hwt := wanted_takes hc.r0.1 hc.r0.2 hi hm hf
  cases e : (c 0 / 2 % 2 == 0)
  · refine .inr ⟨rfl, ?_⟩
    rw [hwt]
    cases et : takesB c fs
    · exact .inl rfl
    · refine .inr ⟨rfl, ?_⟩
      rcases h with h | h
      · rw [et] at h; cases h
      · have r0 := hc.r0
        have hb : bitB 2 (c 0) = true := by
          unfold bitB
          simp only [beq_eq_false_iff_ne, ne_eq] at e
          simp only [beq_iff_eq]
          omega
        unfold waitsr at h
        rw [hb, Bool.true_and] at h
        simpa using h
  · exact .inl rfl
theorem rRecv_c {c : Nat → Int} {m : List Int} {a1 : Option Addr} {j : Nat} {a : Option Addr} {n k : Nat} {xs : List Int} {fa : Option Addr} {fk : Nat} {fs : List Int} {w : World} (hm : MacOf c m) (hN : Buf w (.slice a1 m.length j) m) (hM : Buf w (.slice a n k) xs) (hF : Buf w (.slice fa fs.length fk) fs) (hl : xs.length ≤ 140737488355328) : Calls Try.prog 28 #[ncV c (.slice a1 m.length j), .agg #[.slice a n k], .slice fa fs.length fk] w fun e w' => ∃ a1 k1 a2 n2 k2, e = .returned (.tuple #[ncV (recvS c m.length xs fs).c (.slice a1 m.length k1), .agg #[.slice a2 n2 k2], .bool (recvS c m.length xs fs).b]) ∧ Hid (Buf w' (.slice a1 m.length k1) m) ∧ Hid (Buf w' (.slice a2 n2 k2) (recvS c m.length xs fs).xs) ∧ Grew w w' := by
  unfold recvS
  cases hb : chkB c m.length
  · exact rRecv_no hN hM hF hl hb
  · obtain ⟨hc, hi⟩ := chk_ok hm hN.ok hb
    have h6 := hi.1
    have hok := hN.ok
    rw [h6, if_pos rfl]
    unfold recvR
    cases ht : takesB c fs
    · have := rRecv_drop hN hM hF hl h6 hc (rRecv_idle hc hi hok (.inl ht))
      exact this
    cases hw : waitsr c
    · have := rRecv_drop hN hM hF hl h6 hc (rRecv_idle hc hi hok (.inr hw))
      exact this
    obtain ⟨h1, h2, u0, hb, u9⟩ := rRecv_pass hc hi hok ht hw
    cases hin : insideV xs.length (atR c) 16
    · have := rRecv_broke hN hM hF hl h6 hc h1 h2 u0 hb u9 hin
      exact this
    cases ho : ownB (bytesV xs (atR c) 16)
    · have := rRecv_other hN hM hF hl h6 hc h1 h2 u0 hb u9 hin ho
      exact this
    cases hf : (decide (lenV (bytesV xs (atR c) 16) < (fs.length : Int)) || !insideV xs.length (adrV (bytesV xs (atR c) 16)) (fs.length : Int))
    · have := rRecv_good hN hM hF hl h6 hc h1 h2 u0 hb u9 hin ho hf
      exact this
    · have := rRecv_bad hN hM hF hl h6 hc h1 h2 u0 hb u9 hin ho hf
      exact this
end Go.Proofs.Ytoehdhhodidehaa
