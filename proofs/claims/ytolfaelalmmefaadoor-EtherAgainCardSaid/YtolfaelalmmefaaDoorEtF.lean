/-
  Package ether: Put, PutArp, Answer, of all frames and messages.
-/
import Derived.Test.YtolfaelalmmefaaDoorEtD
import Derived.Test.YtolfaelalmmefaaDoorStep
set_option maxRecDepth 4000
set_option linter.unusedVariables false
set_option linter.unusedSimpArgs false
namespace Go.Proofs.YtolfaelalmmefaaDoor
open Go.RowKit

theorem isFrame_0 (a1 : Option Addr) (n1 c1 : Nat) (a2 : Option Addr) (n2 c2 : Nat) (t : Int) (a3 : Option Addr) (n3 c3 : Nat) (h1 : ((n1 : Int) == 6) = false) (w : World) :
    Calls Tryd.prog 24 #[.agg #[.slice a1 n1 c1, .slice a2 n2 c2, .int .i64 t, .slice a3 n3 c3]] w fun e w' => e = .returned (.bool false) ∧ Grew w w' := by
  go_enter Tryd.func24, Tryd.ntmps24
  go_upto_region 1 with fail
  have hB : Blk (w.alloc (.cells #[.slice a1 n1 c1, .slice a2 n2 c2, .int .i64 t, .slice a3 n3 c3] 25)) w.heap.size #[.slice a1 n1 c1, .slice a2 n2 c2, .int .i64 t, .slice a3 n3 c3] 25 := Blk.new _ _ _ _ rfl
  have g0 : Grew w (w.alloc (.cells #[.slice a1 n1 c1, .slice a2 n2 c2, .int .i64 t, .slice a3 n3 c3] 25)) := (Grew.refl _).alloc _
  generalize (w.alloc (.cells #[.slice a1 n1 c1, .slice a2 n2 c2, .int .i64 t, .slice a3 n3 c3] 25)) = w0 at *
  generalize hlB : w.heap.size = B at *
  have y0 := hB.cell 0
  have y1 := hB.cell 1
  have y2 := hB.cell 2
  have y3 := hB.cell 3
  go_wp2_with (first | (go_at_call 34; refine (isMac_c _ _ _ _ (by assumption) _).mono ?_; rintro e w2 ⟨rfl, h2⟩; obtain rfl := h2.symm))
  go_ret
  exact ⟨rfl, g0⟩
theorem isFrame_1 (a1 : Option Addr) (n1 c1 : Nat) (a2 : Option Addr) (n2 c2 : Nat) (t : Int) (a3 : Option Addr) (n3 c3 : Nat) (h1 : ((n1 : Int) == 6) = true) (h2 : ((n2 : Int) == 6) = false) (w : World) :
    Calls Tryd.prog 24 #[.agg #[.slice a1 n1 c1, .slice a2 n2 c2, .int .i64 t, .slice a3 n3 c3]] w fun e w' => e = .returned (.bool false) ∧ Grew w w' := by
  go_enter Tryd.func24, Tryd.ntmps24
  go_upto_region 1 with fail
  have hB : Blk (w.alloc (.cells #[.slice a1 n1 c1, .slice a2 n2 c2, .int .i64 t, .slice a3 n3 c3] 25)) w.heap.size #[.slice a1 n1 c1, .slice a2 n2 c2, .int .i64 t, .slice a3 n3 c3] 25 := Blk.new _ _ _ _ rfl
  have g0 : Grew w (w.alloc (.cells #[.slice a1 n1 c1, .slice a2 n2 c2, .int .i64 t, .slice a3 n3 c3] 25)) := (Grew.refl _).alloc _
  generalize (w.alloc (.cells #[.slice a1 n1 c1, .slice a2 n2 c2, .int .i64 t, .slice a3 n3 c3] 25)) = w0 at *
  generalize hlB : w.heap.size = B at *
  have y0 := hB.cell 0
  have y1 := hB.cell 1
  have y2 := hB.cell 2
  have y3 := hB.cell 3
  go_wp2_with (first | (go_at_call 34; refine (isMac_c _ _ _ _ (by assumption) _).mono ?_; rintro e w2 ⟨rfl, h2⟩; obtain rfl := h2.symm))
  go_ret
  exact ⟨rfl, g0⟩
theorem isFrame_2 (a1 : Option Addr) (n1 c1 : Nat) (a2 : Option Addr) (n2 c2 : Nat) (t : Int) (a3 : Option Addr) (n3 c3 : Nat) (h1 : ((n1 : Int) == 6) = true) (h2 : ((n2 : Int) == 6) = true) (h3 : ¬ 0 ≤ t) (w : World) :
    Calls Tryd.prog 24 #[.agg #[.slice a1 n1 c1, .slice a2 n2 c2, .int .i64 t, .slice a3 n3 c3]] w fun e w' => e = .returned (.bool false) ∧ Grew w w' := by
  go_enter Tryd.func24, Tryd.ntmps24
  go_upto_region 1 with fail
  have hB : Blk (w.alloc (.cells #[.slice a1 n1 c1, .slice a2 n2 c2, .int .i64 t, .slice a3 n3 c3] 25)) w.heap.size #[.slice a1 n1 c1, .slice a2 n2 c2, .int .i64 t, .slice a3 n3 c3] 25 := Blk.new _ _ _ _ rfl
  have g0 : Grew w (w.alloc (.cells #[.slice a1 n1 c1, .slice a2 n2 c2, .int .i64 t, .slice a3 n3 c3] 25)) := (Grew.refl _).alloc _
  generalize (w.alloc (.cells #[.slice a1 n1 c1, .slice a2 n2 c2, .int .i64 t, .slice a3 n3 c3] 25)) = w0 at *
  generalize hlB : w.heap.size = B at *
  have y0 := hB.cell 0
  have y1 := hB.cell 1
  have y2 := hB.cell 2
  have y3 := hB.cell 3
  go_wp2_with (first | (go_at_call 34; refine (isMac_c _ _ _ _ (by assumption) _).mono ?_; rintro e w2 ⟨rfl, h2⟩; obtain rfl := h2.symm))
  go_ret
  exact ⟨rfl, g0⟩
theorem isFrame_3 (a1 : Option Addr) (n1 c1 : Nat) (a2 : Option Addr) (n2 c2 : Nat) (t : Int) (a3 : Option Addr) (n3 c3 : Nat) (h1 : ((n1 : Int) == 6) = true) (h2 : ((n2 : Int) == 6) = true) (h3 : 0 ≤ t) (h4 : ¬ t ≤ 65535) (w : World) :
    Calls Tryd.prog 24 #[.agg #[.slice a1 n1 c1, .slice a2 n2 c2, .int .i64 t, .slice a3 n3 c3]] w fun e w' => e = .returned (.bool false) ∧ Grew w w' := by
  go_enter Tryd.func24, Tryd.ntmps24
  go_upto_region 1 with fail
  have hB : Blk (w.alloc (.cells #[.slice a1 n1 c1, .slice a2 n2 c2, .int .i64 t, .slice a3 n3 c3] 25)) w.heap.size #[.slice a1 n1 c1, .slice a2 n2 c2, .int .i64 t, .slice a3 n3 c3] 25 := Blk.new _ _ _ _ rfl
  have g0 : Grew w (w.alloc (.cells #[.slice a1 n1 c1, .slice a2 n2 c2, .int .i64 t, .slice a3 n3 c3] 25)) := (Grew.refl _).alloc _
  generalize (w.alloc (.cells #[.slice a1 n1 c1, .slice a2 n2 c2, .int .i64 t, .slice a3 n3 c3] 25)) = w0 at *
  generalize hlB : w.heap.size = B at *
  have y0 := hB.cell 0
  have y1 := hB.cell 1
  have y2 := hB.cell 2
  have y3 := hB.cell 3
  go_wp2_with (first | (go_at_call 34; refine (isMac_c _ _ _ _ (by assumption) _).mono ?_; rintro e w2 ⟨rfl, h2⟩; obtain rfl := h2.symm))
  go_ret
  exact ⟨rfl, g0⟩
theorem isFrame_4 (a1 : Option Addr) (n1 c1 : Nat) (a2 : Option Addr) (n2 c2 : Nat) (t : Int) (a3 : Option Addr) (n3 c3 : Nat) (h1 : ((n1 : Int) == 6) = true) (h2 : ((n2 : Int) == 6) = true) (h3 : 0 ≤ t) (h4 : t ≤ 65535) (h5 : decide ((n3 : Int) ≤ 1500) = false) (w : World) :
    Calls Tryd.prog 24 #[.agg #[.slice a1 n1 c1, .slice a2 n2 c2, .int .i64 t, .slice a3 n3 c3]] w fun e w' => e = .returned (.bool false) ∧ Grew w w' := by
  go_enter Tryd.func24, Tryd.ntmps24
  go_upto_region 1 with fail
  have hB : Blk (w.alloc (.cells #[.slice a1 n1 c1, .slice a2 n2 c2, .int .i64 t, .slice a3 n3 c3] 25)) w.heap.size #[.slice a1 n1 c1, .slice a2 n2 c2, .int .i64 t, .slice a3 n3 c3] 25 := Blk.new _ _ _ _ rfl
  have g0 : Grew w (w.alloc (.cells #[.slice a1 n1 c1, .slice a2 n2 c2, .int .i64 t, .slice a3 n3 c3] 25)) := (Grew.refl _).alloc _
  generalize (w.alloc (.cells #[.slice a1 n1 c1, .slice a2 n2 c2, .int .i64 t, .slice a3 n3 c3] 25)) = w0 at *
  generalize hlB : w.heap.size = B at *
  have y0 := hB.cell 0
  have y1 := hB.cell 1
  have y2 := hB.cell 2
  have y3 := hB.cell 3
  go_wp2_with (first | (go_at_call 34; refine (isMac_c _ _ _ _ (by assumption) _).mono ?_; rintro e w2 ⟨rfl, h2⟩; obtain rfl := h2.symm))
  go_ret
  exact ⟨rfl, g0⟩
theorem isFrame_5 (a1 : Option Addr) (n1 c1 : Nat) (a2 : Option Addr) (n2 c2 : Nat) (t : Int) (a3 : Option Addr) (n3 c3 : Nat) (h1 : ((n1 : Int) == 6) = true) (h2 : ((n2 : Int) == 6) = true) (h3 : 0 ≤ t) (h4 : t ≤ 65535) (h5 : decide ((n3 : Int) ≤ 1500) = true) (w : World) :
    Calls Tryd.prog 24 #[.agg #[.slice a1 n1 c1, .slice a2 n2 c2, .int .i64 t, .slice a3 n3 c3]] w fun e w' => e = .returned (.bool true) ∧ Grew w w' := by
  go_enter Tryd.func24, Tryd.ntmps24
  go_upto_region 1 with fail
  have hB : Blk (w.alloc (.cells #[.slice a1 n1 c1, .slice a2 n2 c2, .int .i64 t, .slice a3 n3 c3] 25)) w.heap.size #[.slice a1 n1 c1, .slice a2 n2 c2, .int .i64 t, .slice a3 n3 c3] 25 := Blk.new _ _ _ _ rfl
  have g0 : Grew w (w.alloc (.cells #[.slice a1 n1 c1, .slice a2 n2 c2, .int .i64 t, .slice a3 n3 c3] 25)) := (Grew.refl _).alloc _
  generalize (w.alloc (.cells #[.slice a1 n1 c1, .slice a2 n2 c2, .int .i64 t, .slice a3 n3 c3] 25)) = w0 at *
  generalize hlB : w.heap.size = B at *
  have y0 := hB.cell 0
  have y1 := hB.cell 1
  have y2 := hB.cell 2
  have y3 := hB.cell 3
  go_wp2_with (first | (go_at_call 34; refine (isMac_c _ _ _ _ (by assumption) _).mono ?_; rintro e w2 ⟨rfl, h2⟩; obtain rfl := h2.symm))
  go_ret
  exact ⟨rfl, g0⟩
theorem isFrame_c (a1 : Option Addr) (n1 c1 : Nat) (a2 : Option Addr) (n2 c2 : Nat) (t : Int) (a3 : Option Addr) (n3 c3 : Nat) (w : World) :
    Calls Tryd.prog 24 #[.agg #[.slice a1 n1 c1, .slice a2 n2 c2, .int .i64 t, .slice a3 n3 c3]] w fun e w' => e = .returned (.bool (decide (n1 = 6 ∧ n2 = 6 ∧ 0 ≤ t ∧ t ≤ 65535 ∧ n3 ≤ 1500))) ∧ Grew w w' := by
  cases h1 : ((n1 : Int) == 6)
  · rw [decide_eq_false (by simp at h1; omega)]; exact isFrame_0 a1 n1 c1 a2 n2 c2 t a3 n3 c3 h1 w
  · skip
    cases h2 : ((n2 : Int) == 6)
    · rw [decide_eq_false (by simp at h2; omega)]; exact isFrame_1 a1 n1 c1 a2 n2 c2 t a3 n3 c3 h1 h2 w
    · skip
      by_cases h3 : 0 ≤ t
      · skip
        by_cases h4 : t ≤ 65535
        · skip
          cases h5 : decide ((n3 : Int) ≤ 1500)
          · rw [decide_eq_false (by simp at h5; omega)]; exact isFrame_4 a1 n1 c1 a2 n2 c2 t a3 n3 c3 h1 h2 h3 h4 h5 w
          · skip
            rw [decide_eq_true (by simp at h1; simp at h2; simp at h5; omega)]; exact isFrame_5 a1 n1 c1 a2 n2 c2 t a3 n3 c3 h1 h2 h3 h4 h5 w
        · rw [decide_eq_false (by omega)]; exact isFrame_3 a1 n1 c1 a2 n2 c2 t a3 n3 c3 h1 h2 h3 h4 w
      · rw [decide_eq_false (by omega)]; exact isFrame_2 a1 n1 c1 a2 n2 c2 t a3 n3 c3 h1 h2 h3 w
theorem isMessage_0 (op : Int) (a1 : Option Addr) (n1 c1 : Nat) (si : Int) (a2 : Option Addr) (n2 c2 : Nat) (ti : Int) (h1 : ((n1 : Int) == 6) = false) (w : World) :
    Calls Tryd.prog 28 #[.agg #[.int .i64 op, .slice a1 n1 c1, .int .u32 si, .slice a2 n2 c2, .int .u32 ti]] w fun e w' => e = .returned (.bool false) ∧ Grew w w' := by
  go_enter Tryd.func28, Tryd.ntmps28
  go_upto_region 1 with fail
  have hB : Blk (w.alloc (.cells #[.int .i64 op, .slice a1 n1 c1, .int .u32 si, .slice a2 n2 c2, .int .u32 ti] 34)) w.heap.size #[.int .i64 op, .slice a1 n1 c1, .int .u32 si, .slice a2 n2 c2, .int .u32 ti] 34 := Blk.new _ _ _ _ rfl
  have g0 : Grew w (w.alloc (.cells #[.int .i64 op, .slice a1 n1 c1, .int .u32 si, .slice a2 n2 c2, .int .u32 ti] 34)) := (Grew.refl _).alloc _
  generalize (w.alloc (.cells #[.int .i64 op, .slice a1 n1 c1, .int .u32 si, .slice a2 n2 c2, .int .u32 ti] 34)) = w0 at *
  generalize hlB : w.heap.size = B at *
  have y0 := hB.cell 0
  have y1 := hB.cell 1
  have y2 := hB.cell 2
  have y3 := hB.cell 3
  have y4 := hB.cell 4
  go_wp2_with (first | (go_at_call 34; refine (isMac_c _ _ _ _ (by assumption) _).mono ?_; rintro e w2 ⟨rfl, h2⟩; obtain rfl := h2.symm) | (go_at_call 46; refine (isOp_c _ _ (by assumption) _).mono ?_; rintro e w2 ⟨rfl, h2⟩; obtain rfl := h2.symm))
  go_ret
  exact ⟨rfl, g0⟩
theorem isMessage_1 (op : Int) (a1 : Option Addr) (n1 c1 : Nat) (si : Int) (a2 : Option Addr) (n2 c2 : Nat) (ti : Int) (h1 : ((n1 : Int) == 6) = true) (h2 : ((n2 : Int) == 6) = false) (w : World) :
    Calls Tryd.prog 28 #[.agg #[.int .i64 op, .slice a1 n1 c1, .int .u32 si, .slice a2 n2 c2, .int .u32 ti]] w fun e w' => e = .returned (.bool false) ∧ Grew w w' := by
  go_enter Tryd.func28, Tryd.ntmps28
  go_upto_region 1 with fail
  have hB : Blk (w.alloc (.cells #[.int .i64 op, .slice a1 n1 c1, .int .u32 si, .slice a2 n2 c2, .int .u32 ti] 34)) w.heap.size #[.int .i64 op, .slice a1 n1 c1, .int .u32 si, .slice a2 n2 c2, .int .u32 ti] 34 := Blk.new _ _ _ _ rfl
  have g0 : Grew w (w.alloc (.cells #[.int .i64 op, .slice a1 n1 c1, .int .u32 si, .slice a2 n2 c2, .int .u32 ti] 34)) := (Grew.refl _).alloc _
  generalize (w.alloc (.cells #[.int .i64 op, .slice a1 n1 c1, .int .u32 si, .slice a2 n2 c2, .int .u32 ti] 34)) = w0 at *
  generalize hlB : w.heap.size = B at *
  have y0 := hB.cell 0
  have y1 := hB.cell 1
  have y2 := hB.cell 2
  have y3 := hB.cell 3
  have y4 := hB.cell 4
  go_wp2_with (first | (go_at_call 34; refine (isMac_c _ _ _ _ (by assumption) _).mono ?_; rintro e w2 ⟨rfl, h2⟩; obtain rfl := h2.symm) | (go_at_call 46; refine (isOp_c _ _ (by assumption) _).mono ?_; rintro e w2 ⟨rfl, h2⟩; obtain rfl := h2.symm))
  go_ret
  exact ⟨rfl, g0⟩
theorem isMessage_2 (op : Int) (a1 : Option Addr) (n1 c1 : Nat) (si : Int) (a2 : Option Addr) (n2 c2 : Nat) (ti : Int) (h1 : ((n1 : Int) == 6) = true) (h2 : ((n2 : Int) == 6) = true) (h3 : decide (op = 1 ∨ op = 2) = false) (w : World) :
    Calls Tryd.prog 28 #[.agg #[.int .i64 op, .slice a1 n1 c1, .int .u32 si, .slice a2 n2 c2, .int .u32 ti]] w fun e w' => e = .returned (.bool false) ∧ Grew w w' := by
  go_enter Tryd.func28, Tryd.ntmps28
  go_upto_region 1 with fail
  have hB : Blk (w.alloc (.cells #[.int .i64 op, .slice a1 n1 c1, .int .u32 si, .slice a2 n2 c2, .int .u32 ti] 34)) w.heap.size #[.int .i64 op, .slice a1 n1 c1, .int .u32 si, .slice a2 n2 c2, .int .u32 ti] 34 := Blk.new _ _ _ _ rfl
  have g0 : Grew w (w.alloc (.cells #[.int .i64 op, .slice a1 n1 c1, .int .u32 si, .slice a2 n2 c2, .int .u32 ti] 34)) := (Grew.refl _).alloc _
  generalize (w.alloc (.cells #[.int .i64 op, .slice a1 n1 c1, .int .u32 si, .slice a2 n2 c2, .int .u32 ti] 34)) = w0 at *
  generalize hlB : w.heap.size = B at *
  have y0 := hB.cell 0
  have y1 := hB.cell 1
  have y2 := hB.cell 2
  have y3 := hB.cell 3
  have y4 := hB.cell 4
  go_wp2_with (first | (go_at_call 34; refine (isMac_c _ _ _ _ (by assumption) _).mono ?_; rintro e w2 ⟨rfl, h2⟩; obtain rfl := h2.symm) | (go_at_call 46; refine (isOp_c _ _ (by assumption) _).mono ?_; rintro e w2 ⟨rfl, h2⟩; obtain rfl := h2.symm))
  go_ret
  exact ⟨rfl, g0⟩
theorem isMessage_3 (op : Int) (a1 : Option Addr) (n1 c1 : Nat) (si : Int) (a2 : Option Addr) (n2 c2 : Nat) (ti : Int) (h1 : ((n1 : Int) == 6) = true) (h2 : ((n2 : Int) == 6) = true) (h3 : decide (op = 1 ∨ op = 2) = true) (w : World) :
    Calls Tryd.prog 28 #[.agg #[.int .i64 op, .slice a1 n1 c1, .int .u32 si, .slice a2 n2 c2, .int .u32 ti]] w fun e w' => e = .returned (.bool true) ∧ Grew w w' := by
  go_enter Tryd.func28, Tryd.ntmps28
  go_upto_region 1 with fail
  have hB : Blk (w.alloc (.cells #[.int .i64 op, .slice a1 n1 c1, .int .u32 si, .slice a2 n2 c2, .int .u32 ti] 34)) w.heap.size #[.int .i64 op, .slice a1 n1 c1, .int .u32 si, .slice a2 n2 c2, .int .u32 ti] 34 := Blk.new _ _ _ _ rfl
  have g0 : Grew w (w.alloc (.cells #[.int .i64 op, .slice a1 n1 c1, .int .u32 si, .slice a2 n2 c2, .int .u32 ti] 34)) := (Grew.refl _).alloc _
  generalize (w.alloc (.cells #[.int .i64 op, .slice a1 n1 c1, .int .u32 si, .slice a2 n2 c2, .int .u32 ti] 34)) = w0 at *
  generalize hlB : w.heap.size = B at *
  have y0 := hB.cell 0
  have y1 := hB.cell 1
  have y2 := hB.cell 2
  have y3 := hB.cell 3
  have y4 := hB.cell 4
  go_wp2_with (first | (go_at_call 34; refine (isMac_c _ _ _ _ (by assumption) _).mono ?_; rintro e w2 ⟨rfl, h2⟩; obtain rfl := h2.symm) | (go_at_call 46; refine (isOp_c _ _ (by assumption) _).mono ?_; rintro e w2 ⟨rfl, h2⟩; obtain rfl := h2.symm))
  go_ret
  exact ⟨rfl, g0⟩
theorem isMessage_c (op : Int) (a1 : Option Addr) (n1 c1 : Nat) (si : Int) (a2 : Option Addr) (n2 c2 : Nat) (ti : Int) (w : World) :
    Calls Tryd.prog 28 #[.agg #[.int .i64 op, .slice a1 n1 c1, .int .u32 si, .slice a2 n2 c2, .int .u32 ti]] w fun e w' => e = .returned (.bool (decide (n1 = 6 ∧ n2 = 6 ∧ (op = 1 ∨ op = 2)))) ∧ Grew w w' := by
  cases h1 : ((n1 : Int) == 6)
  · rw [decide_eq_false (by simp at h1; omega)]; exact isMessage_0 op a1 n1 c1 si a2 n2 c2 ti h1 w
  · skip
    cases h2 : ((n2 : Int) == 6)
    · rw [decide_eq_false (by simp at h2; omega)]; exact isMessage_1 op a1 n1 c1 si a2 n2 c2 ti h1 h2 w
    · skip
      cases h3 : decide (op = 1 ∨ op = 2)
      · rw [decide_eq_false (by simp at h3; omega)]; exact isMessage_2 op a1 n1 c1 si a2 n2 c2 ti h1 h2 h3 w
      · skip
        rw [decide_eq_true (by simp at h1; simp at h2; simp at h3; omega)]; exact isMessage_3 op a1 n1 c1 si a2 n2 c2 ti h1 h2 h3 w
theorem bool_not_eq {b c : Bool} (h : b = c) : (!b) = !c := by rw [h]
theorem put_no {f : FR} {p1 : Option Addr} {k1 : Nat} {p2 : Option Addr} {k2 : Nat} {p3 : Option Addr} {k3 : Nat} (hok : decide (f.d.length = 6 ∧ f.s.length = 6 ∧ 0 ≤ f.t ∧ f.t ≤ 65535 ∧ f.x.length ≤ 1500) = false) (w : World) :
    Calls Tryd.prog 10 #[.agg #[.slice p1 f.d.length k1, .slice p2 f.s.length k2, .int .i64 f.t, .slice p3 f.x.length k3]] w fun e w' => e = .returned (.tuple #[.slice none 0 0, .int .i64 2]) ∧ Grew w w' := by
  have HIS := Lib.hid (isFrame_c p1 f.d.length k1 p2 f.s.length k2 f.t p3 f.x.length k3)
  have HOK := Lib.hid hok
  clear hok
  go_enter Tryd.func10, Tryd.ntmps10
  go_upto_region 1 with fail
  have hB : Blk (w.alloc (.cells #[.slice p1 f.d.length k1, .slice p2 f.s.length k2, .int .i64 f.t, .slice p3 f.x.length k3] 25)) w.heap.size #[.slice p1 f.d.length k1, .slice p2 f.s.length k2, .int .i64 f.t, .slice p3 f.x.length k3] 25 := Blk.new _ _ _ _ rfl
  have g0 : Grew w (w.alloc (.cells #[.slice p1 f.d.length k1, .slice p2 f.s.length k2, .int .i64 f.t, .slice p3 f.x.length k3] 25)) := (Grew.refl _).alloc _
  generalize (w.alloc (.cells #[.slice p1 f.d.length k1, .slice p2 f.s.length k2, .int .i64 f.t, .slice p3 f.x.length k3] 25)) = w0 at *
  generalize hlB : w.heap.size = B at *
  have y0 := hB.cell 0
  have y1 := hB.cell 1
  have y2 := hB.cell 2
  have y3 := hB.cell 3
  go_wp2_with fail
  refine (HIS.out _).mono ?_
  rintro e w1 ⟨rfl, g1⟩
  rw [HOK.out]
  have G1 := g0.trans g1
  have hB1 := hB.grew g1
  clear y0 y1 y2 y3 hB
  go_wp2_with fail
  go_ret2
  exact ⟨rfl, G1⟩
theorem putA_no {f : AR} {p1 : Option Addr} {k1 : Nat} {p2 : Option Addr} {k2 : Nat} (hok : decide (f.sm.length = 6 ∧ f.tm.length = 6 ∧ (f.op = 1 ∨ f.op = 2)) = false) (w : World) :
    Calls Tryd.prog 13 #[.agg #[.int .i64 f.op, .slice p1 f.sm.length k1, .int .u32 f.si, .slice p2 f.tm.length k2, .int .u32 f.ti]] w fun e w' => e = .returned (.tuple #[.slice none 0 0, .int .i64 2]) ∧ Grew w w' := by
  have HIS := Lib.hid (isMessage_c f.op p1 f.sm.length k1 f.si p2 f.tm.length k2 f.ti)
  have HOK := Lib.hid hok
  clear hok
  go_enter Tryd.func13, Tryd.ntmps13
  go_upto_region 1 with fail
  have hB : Blk (w.alloc (.cells #[.int .i64 f.op, .slice p1 f.sm.length k1, .int .u32 f.si, .slice p2 f.tm.length k2, .int .u32 f.ti] 34)) w.heap.size #[.int .i64 f.op, .slice p1 f.sm.length k1, .int .u32 f.si, .slice p2 f.tm.length k2, .int .u32 f.ti] 34 := Blk.new _ _ _ _ rfl
  have g0 : Grew w (w.alloc (.cells #[.int .i64 f.op, .slice p1 f.sm.length k1, .int .u32 f.si, .slice p2 f.tm.length k2, .int .u32 f.ti] 34)) := (Grew.refl _).alloc _
  generalize (w.alloc (.cells #[.int .i64 f.op, .slice p1 f.sm.length k1, .int .u32 f.si, .slice p2 f.tm.length k2, .int .u32 f.ti] 34)) = w0 at *
  generalize hlB : w.heap.size = B at *
  have y0 := hB.cell 0
  have y1 := hB.cell 1
  have y2 := hB.cell 2
  have y3 := hB.cell 3
  have y4 := hB.cell 4
  go_wp2_with fail
  refine (HIS.out _).mono ?_
  rintro e w1 ⟨rfl, g1⟩
  rw [HOK.out]
  have G1 := g0.trans g1
  have hB1 := hB.grew g1
  clear y0 y1 y2 y3 y4 hB
  go_wp2_with fail
  go_ret2
  exact ⟨rfl, G1⟩
set_option maxHeartbeats 2000000 in
theorem put_yes {f : FR} {p1 : Option Addr} {k1 : Nat} {p2 : Option Addr} {k2 : Nat} {p3 : Option Addr} {k3 : Nat} (hok : decide (f.d.length = 6 ∧ f.s.length = 6 ∧ 0 ≤ f.t ∧ f.t ≤ 65535 ∧ f.x.length ≤ 1500) = true)  {w : World} (hb1 : Buf w (.slice p1 f.d.length k1) f.d) (hb2 : Buf w (.slice p2 f.s.length k2) f.s) (hb3 : Buf w (.slice p3 f.x.length k3) f.x) :
    Calls Tryd.prog 10 #[.agg #[.slice p1 f.d.length k1, .slice p2 f.s.length k2, .int .i64 f.t, .slice p3 f.x.length k3]] w fun e w' => ∃ u, e = .returned (.tuple #[u, .int .i64 0]) ∧ Buf w' u (putF f) ∧ Grew w w' := by
  have hk := of_decide_eq_true hok
  have ht0 : 0 ≤ f.t := hk.2.2.1
  have ht1 : f.t ≤ 9223372036854775807 := by have := hk.2.2.2.1; omega
  have hflat : [f.d, f.s, putL f.t 2 true, f.x].flatten = putF f := by simp [putF]
  have hlen : (putF f).length ≤ 140737488355328 := by
    unfold putF
    simp only [List.length_append, putB_len]
    omega
  have hfl : [f.d, f.s, putL f.t 2 true, f.x].flatten.length ≤ 140737488355328 := by rw [hflat]; exact hlen
  have HFL := Lib.hid hflat
  have HLN := Lib.hid hfl
  have H1 := Lib.hid hb1
  have H2 := Lib.hid hb2
  have H3 := Lib.hid hb3
  clear hb1 hb2 hb3 hk hflat hlen hfl
  have HIS := Lib.hid (isFrame_c p1 f.d.length k1 p2 f.s.length k2 f.t p3 f.x.length k3)
  have HOK := Lib.hid hok
  clear hok
  go_enter Tryd.func10, Tryd.ntmps10
  go_upto_region 1 with fail
  have hB : Blk (w.alloc (.cells #[.slice p1 f.d.length k1, .slice p2 f.s.length k2, .int .i64 f.t, .slice p3 f.x.length k3] 25)) w.heap.size #[.slice p1 f.d.length k1, .slice p2 f.s.length k2, .int .i64 f.t, .slice p3 f.x.length k3] 25 := Blk.new _ _ _ _ rfl
  have g0 : Grew w (w.alloc (.cells #[.slice p1 f.d.length k1, .slice p2 f.s.length k2, .int .i64 f.t, .slice p3 f.x.length k3] 25)) := (Grew.refl _).alloc _
  generalize (w.alloc (.cells #[.slice p1 f.d.length k1, .slice p2 f.s.length k2, .int .i64 f.t, .slice p3 f.x.length k3] 25)) = w0 at *
  generalize hlB : w.heap.size = B at *
  have y0 := hB.cell 0
  have y1 := hB.cell 1
  have y2 := hB.cell 2
  have y3 := hB.cell 3
  go_wp2_with fail
  refine (HIS.out _).mono ?_
  rintro e w1 ⟨rfl, g1⟩
  rw [HOK.out]
  have G1 := g0.trans g1
  have hB1 := hB.grew g1
  clear y0 y1 y2 y3 hB
  go_upto_region 3 with fail
  refine wp_region_held_drew (S := fun w' => Grew w1 w') (by kernel_rfl) ((Grew.refl w1).drew1) (fun hHeld => ?_)
  replace hHeld : Grew w1 w1.drew := hHeld
  generalize w1.drew = wq0 at *
  refine wpAnyH_take (i := 0) (v := ?_) rfl (by kernel_rfl) (by kernel_rfl) (by kernel_rfl) (fun _ _ _ h => h) (Or.inl ⟨by rfl, ?_⟩) hHeld ?_
  rotate_left
  · intro wq hSw
    replace hSw : Grew w1 wq := hSw
    go_simp
    try with_reducible rfl
  try simp only [List.getElem_toArray, List.getElem_cons_succ, List.getElem_cons_zero, Act.put, List.setIfInBounds_toArray, List.set_cons_zero, List.set_cons_succ]
  refine wpAnyH_take (i := 1) (v := ?_) rfl (by kernel_rfl) (by kernel_rfl) (by kernel_rfl) (fun _ _ _ h => h) (Or.inl ⟨by rfl, ?_⟩) hHeld ?_
  rotate_left
  · intro wq hSw
    replace hSw : Grew w1 wq := hSw
    have y0 := (hB1.grew hSw).cell 0
    go_simp
    try with_reducible rfl
  try simp only [List.getElem_toArray, List.getElem_cons_succ, List.getElem_cons_zero, Act.put, List.setIfInBounds_toArray, List.set_cons_zero, List.set_cons_succ]
  refine wpAnyH_take (i := 2) (v := ?_) rfl (by kernel_rfl) (by kernel_rfl) (by kernel_rfl) (fun _ _ _ h => h) (Or.inl ⟨by rfl, ?_⟩) hHeld ?_
  rotate_left
  · intro wq hSw
    replace hSw : Grew w1 wq := hSw
    go_simp
    try with_reducible rfl
  try simp only [List.getElem_toArray, List.getElem_cons_succ, List.getElem_cons_zero, Act.put, List.setIfInBounds_toArray, List.set_cons_zero, List.set_cons_succ]
  refine wpAnyH_take (i := 3) (v := ?_) rfl (by kernel_rfl) (by kernel_rfl) (by kernel_rfl) (fun _ _ _ h => h) (Or.inl ⟨by rfl, ?_⟩) hHeld ?_
  rotate_left
  · intro wq hSw
    replace hSw : Grew w1 wq := hSw
    have y1 := (hB1.grew hSw).cell 1
    go_simp
    try with_reducible rfl
  try simp only [List.getElem_toArray, List.getElem_cons_succ, List.getElem_cons_zero, Act.put, List.setIfInBounds_toArray, List.set_cons_zero, List.set_cons_succ]
  refine wpAnyH_take (i := 4) (v := ?_) rfl (by kernel_rfl) (by kernel_rfl) (by kernel_rfl) (fun _ _ _ h => h) (Or.inl ⟨by rfl, ?_⟩) hHeld ?_
  rotate_left
  · intro wq hSw
    replace hSw : Grew w1 wq := hSw
    go_simp
    try with_reducible rfl
  try simp only [List.getElem_toArray, List.getElem_cons_succ, List.getElem_cons_zero, Act.put, List.setIfInBounds_toArray, List.set_cons_zero, List.set_cons_succ]
  refine wpAnyH_take (i := 5) (v := ?_) rfl (by kernel_rfl) (by kernel_rfl) (by kernel_rfl) (fun _ _ _ h => h) (Or.inl ⟨by rfl, ?_⟩) hHeld ?_
  rotate_left
  · intro wq hSw
    replace hSw : Grew w1 wq := hSw
    have y2 := (hB1.grew hSw).cell 2
    go_simp
    try with_reducible rfl
  try simp only [List.getElem_toArray, List.getElem_cons_succ, List.getElem_cons_zero, Act.put, List.setIfInBounds_toArray, List.set_cons_zero, List.set_cons_succ]
  refine wpAnyH_take (i := 7) (v := ?_) rfl (by kernel_rfl) (by kernel_rfl) (by kernel_rfl) (fun _ _ _ h => h) (Or.inl ⟨by rfl, ?_⟩) hHeld ?_
  rotate_left
  · intro wq hSw
    replace hSw : Grew w1 wq := hSw
    go_simp
    try with_reducible rfl
  try simp only [List.getElem_toArray, List.getElem_cons_succ, List.getElem_cons_zero, Act.put, List.setIfInBounds_toArray, List.set_cons_zero, List.set_cons_succ]
  refine wpAnyH_take (i := 8) (v := ?_) rfl (by kernel_rfl) (by kernel_rfl) (by kernel_rfl) (fun _ _ _ h => h) (Or.inl ⟨by rfl, ?_⟩) hHeld ?_
  rotate_left
  · intro wq hSw
    replace hSw : Grew w1 wq := hSw
    have y3 := (hB1.grew hSw).cell 3
    go_simp
    try with_reducible rfl
  try simp only [List.getElem_toArray, List.getElem_cons_succ, List.getElem_cons_zero, Act.put, List.setIfInBounds_toArray, List.set_cons_zero, List.set_cons_succ]
  refine wpAnyH_ready (rs := [6]) (by kernel_rfl) (by simp) ?_
  refine AllReadyH.cons rfl (fun K hK => ?_) AllReadyH.nil
  go_simp
  refine (pair_c f.t ht0 ht1 wq0).mono ?_
  rintro e wk1 ⟨pt, ct, rfl, HT, gk1⟩
  replace HT := Lib.hid HT
  refine hK.out _ _ (hHeld.trans gk1) (fun hHeld => ?_)
  clear hK K
  try simp only [List.getElem_toArray, List.getElem_cons_succ, List.getElem_cons_zero, Act.put, List.setIfInBounds_toArray, List.set_cons_zero, List.set_cons_succ]
  refine wpAnyH_ready (rs := [9]) (by kernel_rfl) (by simp) ?_
  refine AllReadyH.cons rfl (fun K hK => ?_) AllReadyH.nil
  go_simp
  have HL := Bufs.ofBlk (Blk.new wk1 #[.slice p1 f.d.length k1, .slice p2 f.s.length k2, .slice pt 2 ct, .slice p3 f.x.length k3] 22 _ rfl) [f.d, f.s, putL f.t 2 true, f.x] 4 4 rfl (by unfold maxLen; simp) (fun i hi => by
    match i, hi with
    | 0, _ => exact ⟨_, rfl, (H1.out.grew (G1.trans hHeld)).grew ((Grew.refl wk1).alloc _)⟩
    | 1, _ => exact ⟨_, rfl, (H2.out.grew (G1.trans hHeld)).grew ((Grew.refl wk1).alloc _)⟩
    | 2, _ => exact ⟨_, rfl, (HT.out).grew ((Grew.refl wk1).alloc _)⟩
    | 3, _ => exact ⟨_, rfl, (H3.out.grew (G1.trans hHeld)).grew ((Grew.refl wk1).alloc _)⟩)
  have gk2 : Grew wk1 (wk1.alloc (.cells #[.slice p1 f.d.length k1, .slice p2 f.s.length k2, .slice pt 2 ct, .slice p3 f.x.length k3] 22)) := (Grew.refl _).alloc _
  replace HL := Lib.hid HL
  replace HT := Lib.hid (HT.out.grew gk2)
  generalize (wk1.alloc (.cells #[.slice p1 f.d.length k1, .slice p2 f.s.length k2, .slice pt 2 ct, .slice p3 f.x.length k3] 22)) = wk2 at *
  generalize wk1.heap.size = Qwk2 at *
  refine hK.out _ _ (hHeld.trans gk2) (fun hHeld => ?_)
  clear hK K
  try simp only [List.getElem_toArray, List.getElem_cons_succ, List.getElem_cons_zero, Act.put, List.setIfInBounds_toArray, List.set_cons_zero, List.set_cons_succ]
  refine wpAnyH_ready (rs := [10]) (by kernel_rfl) (by simp) ?_
  refine AllReadyH.cons rfl (fun K hK => ?_) AllReadyH.nil
  go_simp
  refine (concat_b wk2 HL.out HLN.out).mono ?_
  rintro e wk3 ⟨u, rfl, hrow, HC, gk3⟩
  rw [HFL.out] at HC
  clear hrow
  replace HC := Lib.hid HC
  replace HT := Lib.hid (HT.out.grew gk3)
  replace HL := Lib.hid (HL.out.grew gk3)
  refine hK.out _ _ (hHeld.trans gk3) (fun hHeld => ?_)
  clear hK K
  try simp only [List.getElem_toArray, List.getElem_cons_succ, List.getElem_cons_zero, Act.put, List.setIfInBounds_toArray, List.set_cons_zero, List.set_cons_succ]
  refine wpAnyH_take (i := 11) (v := ?_) rfl (by kernel_rfl) (by kernel_rfl) (by kernel_rfl) (fun _ _ _ h => h) (Or.inl ⟨by rfl, ?_⟩) hHeld ?_
  rotate_left
  · intro wq hSw
    replace hSw : Grew w1 wq := hSw
    go_simp
    try with_reducible rfl
  try simp only [List.getElem_toArray, List.getElem_cons_succ, List.getElem_cons_zero, Act.put, List.setIfInBounds_toArray, List.set_cons_zero, List.set_cons_succ]
  refine wpAnyH_take (i := 12) (v := ?_) rfl (by kernel_rfl) (by kernel_rfl) (by kernel_rfl) (fun _ _ _ h => h) (Or.inl ⟨by rfl, ?_⟩) hHeld ?_
  rotate_left
  · intro wq hSw
    replace hSw : Grew w1 wq := hSw
    go_simp
    try with_reducible rfl
  try simp only [List.getElem_toArray, List.getElem_cons_succ, List.getElem_cons_zero, Act.put, List.setIfInBounds_toArray, List.set_cons_zero, List.set_cons_succ]
  refine wpAnyH_done (by kernel_rfl) ?_ _
  try simp only [List.getElem_toArray, List.getElem_cons_succ, List.getElem_cons_zero, Act.put, List.setIfInBounds_toArray, List.set_cons_zero, List.set_cons_succ]
  go_wp2_with fail
  go_ret2
  exact ⟨_, rfl, HC.out, G1.trans hHeld⟩
set_option maxHeartbeats 2000000 in
theorem putA_yes {f : AR} {p1 : Option Addr} {k1 : Nat} {p2 : Option Addr} {k2 : Nat} (hok : decide (f.sm.length = 6 ∧ f.tm.length = 6 ∧ (f.op = 1 ∨ f.op = 2)) = true) (hsi : u32I f.si) (hti : u32I f.ti) {w : World} (hb1 : Buf w (.slice p1 f.sm.length k1) f.sm) (hb2 : Buf w (.slice p2 f.tm.length k2) f.tm) :
    Calls Tryd.prog 13 #[.agg #[.int .i64 f.op, .slice p1 f.sm.length k1, .int .u32 f.si, .slice p2 f.tm.length k2, .int .u32 f.ti]] w fun e w' => ∃ u, e = .returned (.tuple #[u, .int .i64 0]) ∧ Buf w' u (putA f) ∧ Grew w w' := by
  have hk := of_decide_eq_true hok
  have hop0 : 0 ≤ f.op := by omega
  have hop1 : f.op ≤ 9223372036854775807 := by omega
  have hflat : [headL, putL f.op 2 true, f.sm, putL f.si 4 true, f.tm, putL f.ti 4 true].flatten = putA f := by simp [putA]
  have hfl : [headL, putL f.op 2 true, f.sm, putL f.si 4 true, f.tm, putL f.ti 4 true].flatten.length ≤ 140737488355328 := by
    rw [hflat]
    unfold putA
    simp only [List.length_append, putB_len, headL, List.length_cons, List.length_nil]
    omega
  have HFL := Lib.hid hflat
  have HLN := Lib.hid hfl
  have H1 := Lib.hid hb1
  have H2 := Lib.hid hb2
  have hs0 := hsi.1
  have hs1 := hsi.2
  have ht0 := hti.1
  have ht1 := hti.2
  clear hb1 hb2 hk hflat hfl hsi hti
  have HIS := Lib.hid (isMessage_c f.op p1 f.sm.length k1 f.si p2 f.tm.length k2 f.ti)
  have HOK := Lib.hid hok
  clear hok
  go_enter Tryd.func13, Tryd.ntmps13
  go_upto_region 1 with fail
  have hB : Blk (w.alloc (.cells #[.int .i64 f.op, .slice p1 f.sm.length k1, .int .u32 f.si, .slice p2 f.tm.length k2, .int .u32 f.ti] 34)) w.heap.size #[.int .i64 f.op, .slice p1 f.sm.length k1, .int .u32 f.si, .slice p2 f.tm.length k2, .int .u32 f.ti] 34 := Blk.new _ _ _ _ rfl
  have g0 : Grew w (w.alloc (.cells #[.int .i64 f.op, .slice p1 f.sm.length k1, .int .u32 f.si, .slice p2 f.tm.length k2, .int .u32 f.ti] 34)) := (Grew.refl _).alloc _
  generalize (w.alloc (.cells #[.int .i64 f.op, .slice p1 f.sm.length k1, .int .u32 f.si, .slice p2 f.tm.length k2, .int .u32 f.ti] 34)) = w0 at *
  generalize hlB : w.heap.size = B at *
  have y0 := hB.cell 0
  have y1 := hB.cell 1
  have y2 := hB.cell 2
  have y3 := hB.cell 3
  have y4 := hB.cell 4
  go_wp2_with fail
  refine (HIS.out _).mono ?_
  rintro e w1 ⟨rfl, g1⟩
  rw [HOK.out]
  have G1 := g0.trans g1
  have hB1 := hB.grew g1
  clear y0 y1 y2 y3 y4 hB
  go_upto_region 3 with fail
  refine wp_region_held_drew (S := fun w' => Grew w1 w') (by kernel_rfl) ((Grew.refl w1).drew1) (fun hHeld => ?_)
  replace hHeld : Grew w1 w1.drew := hHeld
  generalize w1.drew = wq0 at *
  refine wpAnyH_take (i := 1) (v := ?_) rfl (by kernel_rfl) (by kernel_rfl) (by kernel_rfl) (fun _ _ _ h => h) (Or.inl ⟨by rfl, ?_⟩) hHeld ?_
  rotate_left
  · intro wq hSw
    replace hSw : Grew w1 wq := hSw
    go_simp
    try with_reducible rfl
  try simp only [List.getElem_toArray, List.getElem_cons_succ, List.getElem_cons_zero, Act.put, List.setIfInBounds_toArray, List.set_cons_zero, List.set_cons_succ]
  refine wpAnyH_take (i := 2) (v := ?_) rfl (by kernel_rfl) (by kernel_rfl) (by kernel_rfl) (fun _ _ _ h => h) (Or.inl ⟨by rfl, ?_⟩) hHeld ?_
  rotate_left
  · intro wq hSw
    replace hSw : Grew w1 wq := hSw
    have y0 := (hB1.grew hSw).cell 0
    go_simp
    try with_reducible rfl
  try simp only [List.getElem_toArray, List.getElem_cons_succ, List.getElem_cons_zero, Act.put, List.setIfInBounds_toArray, List.set_cons_zero, List.set_cons_succ]
  refine wpAnyH_take (i := 4) (v := ?_) rfl (by kernel_rfl) (by kernel_rfl) (by kernel_rfl) (fun _ _ _ h => h) (Or.inl ⟨by rfl, ?_⟩) hHeld ?_
  rotate_left
  · intro wq hSw
    replace hSw : Grew w1 wq := hSw
    go_simp
    try with_reducible rfl
  try simp only [List.getElem_toArray, List.getElem_cons_succ, List.getElem_cons_zero, Act.put, List.setIfInBounds_toArray, List.set_cons_zero, List.set_cons_succ]
  refine wpAnyH_take (i := 5) (v := ?_) rfl (by kernel_rfl) (by kernel_rfl) (by kernel_rfl) (fun _ _ _ h => h) (Or.inl ⟨by rfl, ?_⟩) hHeld ?_
  rotate_left
  · intro wq hSw
    replace hSw : Grew w1 wq := hSw
    have y1 := (hB1.grew hSw).cell 1
    go_simp
    try with_reducible rfl
  try simp only [List.getElem_toArray, List.getElem_cons_succ, List.getElem_cons_zero, Act.put, List.setIfInBounds_toArray, List.set_cons_zero, List.set_cons_succ]
  refine wpAnyH_take (i := 6) (v := ?_) rfl (by kernel_rfl) (by kernel_rfl) (by kernel_rfl) (fun _ _ _ h => h) (Or.inl ⟨by rfl, ?_⟩) hHeld ?_
  rotate_left
  · intro wq hSw
    replace hSw : Grew w1 wq := hSw
    go_simp
    try with_reducible rfl
  try simp only [List.getElem_toArray, List.getElem_cons_succ, List.getElem_cons_zero, Act.put, List.setIfInBounds_toArray, List.set_cons_zero, List.set_cons_succ]
  refine wpAnyH_take (i := 7) (v := ?_) rfl (by kernel_rfl) (by kernel_rfl) (by kernel_rfl) (fun _ _ _ h => h) (Or.inl ⟨by rfl, ?_⟩) hHeld ?_
  rotate_left
  · intro wq hSw
    replace hSw : Grew w1 wq := hSw
    have y2 := (hB1.grew hSw).cell 2
    go_simp
    try with_reducible rfl
  try simp only [List.getElem_toArray, List.getElem_cons_succ, List.getElem_cons_zero, Act.put, List.setIfInBounds_toArray, List.set_cons_zero, List.set_cons_succ]
  refine wpAnyH_take (i := 9) (v := ?_) rfl (by kernel_rfl) (by kernel_rfl) (by kernel_rfl) (fun _ _ _ h => h) (Or.inl ⟨by rfl, ?_⟩) hHeld ?_
  rotate_left
  · intro wq hSw
    replace hSw : Grew w1 wq := hSw
    go_simp
    try with_reducible rfl
  try simp only [List.getElem_toArray, List.getElem_cons_succ, List.getElem_cons_zero, Act.put, List.setIfInBounds_toArray, List.set_cons_zero, List.set_cons_succ]
  refine wpAnyH_take (i := 10) (v := ?_) rfl (by kernel_rfl) (by kernel_rfl) (by kernel_rfl) (fun _ _ _ h => h) (Or.inl ⟨by rfl, ?_⟩) hHeld ?_
  rotate_left
  · intro wq hSw
    replace hSw : Grew w1 wq := hSw
    have y3 := (hB1.grew hSw).cell 3
    go_simp
    try with_reducible rfl
  try simp only [List.getElem_toArray, List.getElem_cons_succ, List.getElem_cons_zero, Act.put, List.setIfInBounds_toArray, List.set_cons_zero, List.set_cons_succ]
  refine wpAnyH_take (i := 11) (v := ?_) rfl (by kernel_rfl) (by kernel_rfl) (by kernel_rfl) (fun _ _ _ h => h) (Or.inl ⟨by rfl, ?_⟩) hHeld ?_
  rotate_left
  · intro wq hSw
    replace hSw : Grew w1 wq := hSw
    go_simp
    try with_reducible rfl
  try simp only [List.getElem_toArray, List.getElem_cons_succ, List.getElem_cons_zero, Act.put, List.setIfInBounds_toArray, List.set_cons_zero, List.set_cons_succ]
  refine wpAnyH_take (i := 12) (v := ?_) rfl (by kernel_rfl) (by kernel_rfl) (by kernel_rfl) (fun _ _ _ h => h) (Or.inl ⟨by rfl, ?_⟩) hHeld ?_
  rotate_left
  · intro wq hSw
    replace hSw : Grew w1 wq := hSw
    have y4 := (hB1.grew hSw).cell 4
    go_simp
    try with_reducible rfl
  try simp only [List.getElem_toArray, List.getElem_cons_succ, List.getElem_cons_zero, Act.put, List.setIfInBounds_toArray, List.set_cons_zero, List.set_cons_succ]
  refine wpAnyH_ready (rs := [0]) (by kernel_rfl) (by simp) ?_
  refine AllReadyH.cons rfl (fun K hK => ?_) AllReadyH.nil
  go_simp
  refine (arpHead_c wq0).mono ?_
  rintro e wk1 ⟨pz, cz, rfl, HZ, gk1⟩
  replace HZ := Lib.hid HZ
  refine hK.out _ _ (hHeld.trans gk1) (fun hHeld => ?_)
  clear hK K
  try simp only [List.getElem_toArray, List.getElem_cons_succ, List.getElem_cons_zero, Act.put, List.setIfInBounds_toArray, List.set_cons_zero, List.set_cons_succ]
  refine wpAnyH_ready (rs := [3]) (by kernel_rfl) (by simp) ?_
  refine AllReadyH.cons rfl (fun K hK => ?_) AllReadyH.nil
  go_simp
  refine (pair_c f.op hop0 hop1 wk1).mono ?_
  rintro e wk2 ⟨pt, ct, rfl, HT, gk2⟩
  replace HT := Lib.hid HT
  replace HZ := Lib.hid (HZ.out.grew gk2)
  refine hK.out _ _ (hHeld.trans gk2) (fun hHeld => ?_)
  clear hK K
  try simp only [List.getElem_toArray, List.getElem_cons_succ, List.getElem_cons_zero, Act.put, List.setIfInBounds_toArray, List.set_cons_zero, List.set_cons_succ]
  refine wpAnyH_ready (rs := [8]) (by kernel_rfl) (by simp) ?_
  refine AllReadyH.cons rfl (fun K hK => ?_) AllReadyH.nil
  go_simp
  refine (address_c f.si hs0 hs1 wk2).mono ?_
  rintro e wk3 ⟨ps, cs, rfl, HS, gk3⟩
  replace HS := Lib.hid HS
  replace HZ := Lib.hid (HZ.out.grew gk3)
  replace HT := Lib.hid (HT.out.grew gk3)
  refine hK.out _ _ (hHeld.trans gk3) (fun hHeld => ?_)
  clear hK K
  try simp only [List.getElem_toArray, List.getElem_cons_succ, List.getElem_cons_zero, Act.put, List.setIfInBounds_toArray, List.set_cons_zero, List.set_cons_succ]
  refine wpAnyH_ready (rs := [13]) (by kernel_rfl) (by simp) ?_
  refine AllReadyH.cons rfl (fun K hK => ?_) AllReadyH.nil
  go_simp
  refine (address_c f.ti ht0 ht1 wk3).mono ?_
  rintro e wk4 ⟨pr, cr, rfl, HR, gk4⟩
  replace HR := Lib.hid HR
  replace HZ := Lib.hid (HZ.out.grew gk4)
  replace HT := Lib.hid (HT.out.grew gk4)
  replace HS := Lib.hid (HS.out.grew gk4)
  refine hK.out _ _ (hHeld.trans gk4) (fun hHeld => ?_)
  clear hK K
  try simp only [List.getElem_toArray, List.getElem_cons_succ, List.getElem_cons_zero, Act.put, List.setIfInBounds_toArray, List.set_cons_zero, List.set_cons_succ]
  refine wpAnyH_ready (rs := [14]) (by kernel_rfl) (by simp) ?_
  refine AllReadyH.cons rfl (fun K hK => ?_) AllReadyH.nil
  go_simp
  have HL := Bufs.ofBlk (Blk.new wk4 #[.slice pz 6 cz, .slice pt 2 ct, .slice p1 f.sm.length k1, .slice ps 4 cs, .slice p2 f.tm.length k2, .slice pr 4 cr] 22 _ rfl) [headL, putL f.op 2 true, f.sm, putL f.si 4 true, f.tm, putL f.ti 4 true] 6 6 rfl (by unfold maxLen; simp) (fun i hi => by
    match i, hi with
    | 0, _ => exact ⟨_, rfl, (HZ.out).grew ((Grew.refl wk4).alloc _)⟩
    | 1, _ => exact ⟨_, rfl, (HT.out).grew ((Grew.refl wk4).alloc _)⟩
    | 2, _ => exact ⟨_, rfl, (H1.out.grew (G1.trans hHeld)).grew ((Grew.refl wk4).alloc _)⟩
    | 3, _ => exact ⟨_, rfl, (HS.out).grew ((Grew.refl wk4).alloc _)⟩
    | 4, _ => exact ⟨_, rfl, (H2.out.grew (G1.trans hHeld)).grew ((Grew.refl wk4).alloc _)⟩
    | 5, _ => exact ⟨_, rfl, (HR.out).grew ((Grew.refl wk4).alloc _)⟩)
  have gk5 : Grew wk4 (wk4.alloc (.cells #[.slice pz 6 cz, .slice pt 2 ct, .slice p1 f.sm.length k1, .slice ps 4 cs, .slice p2 f.tm.length k2, .slice pr 4 cr] 22)) := (Grew.refl _).alloc _
  replace HL := Lib.hid HL
  replace HZ := Lib.hid (HZ.out.grew gk5)
  replace HT := Lib.hid (HT.out.grew gk5)
  replace HS := Lib.hid (HS.out.grew gk5)
  replace HR := Lib.hid (HR.out.grew gk5)
  generalize (wk4.alloc (.cells #[.slice pz 6 cz, .slice pt 2 ct, .slice p1 f.sm.length k1, .slice ps 4 cs, .slice p2 f.tm.length k2, .slice pr 4 cr] 22)) = wk5 at *
  generalize wk4.heap.size = Qwk5 at *
  refine hK.out _ _ (hHeld.trans gk5) (fun hHeld => ?_)
  clear hK K
  try simp only [List.getElem_toArray, List.getElem_cons_succ, List.getElem_cons_zero, Act.put, List.setIfInBounds_toArray, List.set_cons_zero, List.set_cons_succ]
  refine wpAnyH_ready (rs := [15]) (by kernel_rfl) (by simp) ?_
  refine AllReadyH.cons rfl (fun K hK => ?_) AllReadyH.nil
  go_simp
  refine (concat_b wk5 HL.out HLN.out).mono ?_
  rintro e wk6 ⟨u, rfl, hrow, HC, gk6⟩
  rw [HFL.out] at HC
  clear hrow
  replace HC := Lib.hid HC
  replace HZ := Lib.hid (HZ.out.grew gk6)
  replace HT := Lib.hid (HT.out.grew gk6)
  replace HS := Lib.hid (HS.out.grew gk6)
  replace HR := Lib.hid (HR.out.grew gk6)
  replace HL := Lib.hid (HL.out.grew gk6)
  refine hK.out _ _ (hHeld.trans gk6) (fun hHeld => ?_)
  clear hK K
  try simp only [List.getElem_toArray, List.getElem_cons_succ, List.getElem_cons_zero, Act.put, List.setIfInBounds_toArray, List.set_cons_zero, List.set_cons_succ]
  refine wpAnyH_take (i := 16) (v := ?_) rfl (by kernel_rfl) (by kernel_rfl) (by kernel_rfl) (fun _ _ _ h => h) (Or.inl ⟨by rfl, ?_⟩) hHeld ?_
  rotate_left
  · intro wq hSw
    replace hSw : Grew w1 wq := hSw
    go_simp
    try with_reducible rfl
  try simp only [List.getElem_toArray, List.getElem_cons_succ, List.getElem_cons_zero, Act.put, List.setIfInBounds_toArray, List.set_cons_zero, List.set_cons_succ]
  refine wpAnyH_take (i := 17) (v := ?_) rfl (by kernel_rfl) (by kernel_rfl) (by kernel_rfl) (fun _ _ _ h => h) (Or.inl ⟨by rfl, ?_⟩) hHeld ?_
  rotate_left
  · intro wq hSw
    replace hSw : Grew w1 wq := hSw
    go_simp
    try with_reducible rfl
  try simp only [List.getElem_toArray, List.getElem_cons_succ, List.getElem_cons_zero, Act.put, List.setIfInBounds_toArray, List.set_cons_zero, List.set_cons_succ]
  refine wpAnyH_done (by kernel_rfl) ?_ _
  try simp only [List.getElem_toArray, List.getElem_cons_succ, List.getElem_cons_zero, Act.put, List.setIfInBounds_toArray, List.set_cons_zero, List.set_cons_succ]
  go_wp2_with fail
  go_ret2
  exact ⟨_, rfl, HC.out, G1.trans hHeld⟩
theorem okF_d (f : FR) : okF f = decide (f.d.length = 6 ∧ f.s.length = 6 ∧ 0 ≤ f.t ∧ f.t ≤ 65535 ∧ f.x.length ≤ 1500) := rfl
theorem okA_d (f : AR) : okA f = decide (f.sm.length = 6 ∧ f.tm.length = 6 ∧ (f.op = 1 ∨ f.op = 2)) := rfl
theorem Put_c {v : Value} {f : FR} {w : World} (hv : Fr w v f) :
    Calls Tryd.prog 10 #[v] w fun e w' => ∃ u, e = .returned (.tuple #[u, .int .i64 (putFE f)]) ∧ Buf w' u (putFB f) ∧ Grew w w' := by
  obtain ⟨p1, k1, p2, k2, p3, k3, rfl, b1, b2, b3⟩ := hv.shape
  unfold putFE putFB
  cases h : okF f
  · exact (put_no h w).mono fun _ _ ⟨h1, h2⟩ => ⟨_, h1, Buf.nil _, h2⟩
  · exact put_yes h b1 b2 b3
theorem PutArp_c {v : Value} {f : AR} {w : World} (hv : Ar w v f) :
    Calls Tryd.prog 13 #[v] w fun e w' => ∃ u, e = .returned (.tuple #[u, .int .i64 (putAE f)]) ∧ Buf w' u (putAB f) ∧ Grew w w' := by
  have hs := hv.si
  have ht := hv.ti
  obtain ⟨p1, k1, p2, k2, rfl, b1, b2⟩ := hv.shape
  unfold putAE putAB
  cases h : okA f
  · exact (putA_no h w).mono fun _ _ ⟨h1, h2⟩ => ⟨_, h1, Buf.nil _, h2⟩
  · exact putA_yes h hs ht b1 b2
set_option maxHeartbeats 1000000 in
theorem ansp_0 {f : AR} {p1 : Option Addr} {k1 : Nat} {p2 : Option Addr} {k2 : Nat} {pm : Option Addr} {m km : Nat} {ms : List Int} {ip : Int} (h1 : (f.op != 1) = true) {w : World} (hb1 : Buf w (.slice p1 f.sm.length k1) f.sm) (hb2 : Buf w (.slice p2 f.tm.length k2) f.tm) (hbm : Buf w (.slice pm m km) ms) :
    Calls Tryd.prog 19 #[.agg #[.int .i64 f.op, .slice p1 f.sm.length k1, .int .u32 f.si, .slice p2 f.tm.length k2, .int .u32 f.ti], .slice pm m km, .int .u32 ip] w fun e w' => ∃ u, e = .returned (.tuple #[u, .bool false]) ∧ Ar w' u zA ∧ Grew w w' := by
  have H1 := Lib.hid hb1
  have H2 := Lib.hid hb2
  have HM := Lib.hid hbm
  clear hb1 hb2 hbm
  go_enter Tryd.func19, Tryd.ntmps19
  go_upto_region 1 with fail
  have hR0 : Blk ((w.alloc (.cells #[.int .i64 f.op, .slice p1 f.sm.length k1, .int .u32 f.si, .slice p2 f.tm.length k2, .int .u32 f.ti] 34)).alloc (.cells #[.int .i64 0, .slice none 0 0, .int .u32 0, .slice none 0 0, .int .u32 0] 34)) (w.heap.size + 1) #[.int .i64 0, .slice none 0 0, .int .u32 0, .slice none 0 0, .int .u32 0] 34 := Blk.new _ _ _ _ (by simp)
  have hB0 : Blk ((w.alloc (.cells #[.int .i64 f.op, .slice p1 f.sm.length k1, .int .u32 f.si, .slice p2 f.tm.length k2, .int .u32 f.ti] 34)).alloc (.cells #[.int .i64 0, .slice none 0 0, .int .u32 0, .slice none 0 0, .int .u32 0] 34)) w.heap.size #[.int .i64 f.op, .slice p1 f.sm.length k1, .int .u32 f.si, .slice p2 f.tm.length k2, .int .u32 f.ti] 34 := (Blk.new _ _ _ _ rfl).alloc _
  have g0 : Grew w ((w.alloc (.cells #[.int .i64 f.op, .slice p1 f.sm.length k1, .int .u32 f.si, .slice p2 f.tm.length k2, .int .u32 f.ti] 34)).alloc (.cells #[.int .i64 0, .slice none 0 0, .int .u32 0, .slice none 0 0, .int .u32 0] 34)) := ((Grew.refl _).alloc _).alloc _
  have hBR : w.heap.size ≠ w.heap.size + 1 := by omega
  have hlR : w.heap.size ≤ w.heap.size + 1 := by omega
  generalize ((w.alloc (.cells #[.int .i64 f.op, .slice p1 f.sm.length k1, .int .u32 f.si, .slice p2 f.tm.length k2, .int .u32 f.ti] 34)).alloc (.cells #[.int .i64 0, .slice none 0 0, .int .u32 0, .slice none 0 0, .int .u32 0] 34)) = w0 at *
  generalize w.heap.size + 1 = R at *
  generalize hlB : w.heap.size = B at *
  have y0 := hB0.cell 0
  have y1 := hB0.cell 1
  have y2 := hB0.cell 2
  have y3 := hB0.cell 3
  have y4 := hB0.cell 4
  have x0 := hR0.cell 0
  have x1 := hR0.cell 1
  have x2 := hR0.cell 2
  have x3 := hR0.cell 3
  have x4 := hR0.cell 4
  have f0 := hR0.free 0
  have f1 := hR0.free 1
  have f2 := hR0.free 2
  have f3 := hR0.free 3
  have f4 := hR0.free 4
  go_wp2_with (fail)
  have E := (((((hR0.set (o := 0) (.int .i64 0)).set (o := 1) (.slice none 0 0)).set (o := 2) (.int .u32 0)).set (o := 3) (.slice none 0 0)).set (o := 4) (.int .u32 0))
  have GE := (((((g0.setCell (b := R) (o := 0) (by omega) (.int .i64 0)).setCell (b := R) (o := 1) (by omega) (.slice none 0 0)).setCell (b := R) (o := 2) (by omega) (.int .u32 0)).setCell (b := R) (o := 3) (by omega) (.slice none 0 0)).setCell (b := R) (o := 4) (by omega) (.int .u32 0))
  have z0 := E.cell 0
  have z1 := E.cell 1
  have z2 := E.cell 2
  have z3 := E.cell 3
  have z4 := E.cell 4
  exact bodyPost_ret (v := .tuple #[.agg #[.int .i64 0, .slice none 0 0, .int .u32 0, .slice none 0 0, .int .u32 0], .bool false]) (by simp [results, Tryd.results19, go_sem, z0, z1, z2, z3, z4]) rfl ⟨_, rfl, Ar.zero _, GE⟩
set_option maxHeartbeats 1000000 in
theorem ansp_1 {f : AR} {p1 : Option Addr} {k1 : Nat} {p2 : Option Addr} {k2 : Nat} {pm : Option Addr} {m km : Nat} {ms : List Int} {ip : Int} (h1 : (f.op != 1) = false) (h2 : (f.ti != ip) = true) {w : World} (hb1 : Buf w (.slice p1 f.sm.length k1) f.sm) (hb2 : Buf w (.slice p2 f.tm.length k2) f.tm) (hbm : Buf w (.slice pm m km) ms) :
    Calls Tryd.prog 19 #[.agg #[.int .i64 f.op, .slice p1 f.sm.length k1, .int .u32 f.si, .slice p2 f.tm.length k2, .int .u32 f.ti], .slice pm m km, .int .u32 ip] w fun e w' => ∃ u, e = .returned (.tuple #[u, .bool false]) ∧ Ar w' u zA ∧ Grew w w' := by
  have H1 := Lib.hid hb1
  have H2 := Lib.hid hb2
  have HM := Lib.hid hbm
  clear hb1 hb2 hbm
  go_enter Tryd.func19, Tryd.ntmps19
  go_upto_region 1 with fail
  have hR0 : Blk ((w.alloc (.cells #[.int .i64 f.op, .slice p1 f.sm.length k1, .int .u32 f.si, .slice p2 f.tm.length k2, .int .u32 f.ti] 34)).alloc (.cells #[.int .i64 0, .slice none 0 0, .int .u32 0, .slice none 0 0, .int .u32 0] 34)) (w.heap.size + 1) #[.int .i64 0, .slice none 0 0, .int .u32 0, .slice none 0 0, .int .u32 0] 34 := Blk.new _ _ _ _ (by simp)
  have hB0 : Blk ((w.alloc (.cells #[.int .i64 f.op, .slice p1 f.sm.length k1, .int .u32 f.si, .slice p2 f.tm.length k2, .int .u32 f.ti] 34)).alloc (.cells #[.int .i64 0, .slice none 0 0, .int .u32 0, .slice none 0 0, .int .u32 0] 34)) w.heap.size #[.int .i64 f.op, .slice p1 f.sm.length k1, .int .u32 f.si, .slice p2 f.tm.length k2, .int .u32 f.ti] 34 := (Blk.new _ _ _ _ rfl).alloc _
  have g0 : Grew w ((w.alloc (.cells #[.int .i64 f.op, .slice p1 f.sm.length k1, .int .u32 f.si, .slice p2 f.tm.length k2, .int .u32 f.ti] 34)).alloc (.cells #[.int .i64 0, .slice none 0 0, .int .u32 0, .slice none 0 0, .int .u32 0] 34)) := ((Grew.refl _).alloc _).alloc _
  have hBR : w.heap.size ≠ w.heap.size + 1 := by omega
  have hlR : w.heap.size ≤ w.heap.size + 1 := by omega
  generalize ((w.alloc (.cells #[.int .i64 f.op, .slice p1 f.sm.length k1, .int .u32 f.si, .slice p2 f.tm.length k2, .int .u32 f.ti] 34)).alloc (.cells #[.int .i64 0, .slice none 0 0, .int .u32 0, .slice none 0 0, .int .u32 0] 34)) = w0 at *
  generalize w.heap.size + 1 = R at *
  generalize hlB : w.heap.size = B at *
  have y0 := hB0.cell 0
  have y1 := hB0.cell 1
  have y2 := hB0.cell 2
  have y3 := hB0.cell 3
  have y4 := hB0.cell 4
  have x0 := hR0.cell 0
  have x1 := hR0.cell 1
  have x2 := hR0.cell 2
  have x3 := hR0.cell 3
  have x4 := hR0.cell 4
  have f0 := hR0.free 0
  have f1 := hR0.free 1
  have f2 := hR0.free 2
  have f3 := hR0.free 3
  have f4 := hR0.free 4
  go_wp2_with (fail)
  have E := (((((hR0.set (o := 0) (.int .i64 0)).set (o := 1) (.slice none 0 0)).set (o := 2) (.int .u32 0)).set (o := 3) (.slice none 0 0)).set (o := 4) (.int .u32 0))
  have GE := (((((g0.setCell (b := R) (o := 0) (by omega) (.int .i64 0)).setCell (b := R) (o := 1) (by omega) (.slice none 0 0)).setCell (b := R) (o := 2) (by omega) (.int .u32 0)).setCell (b := R) (o := 3) (by omega) (.slice none 0 0)).setCell (b := R) (o := 4) (by omega) (.int .u32 0))
  have z0 := E.cell 0
  have z1 := E.cell 1
  have z2 := E.cell 2
  have z3 := E.cell 3
  have z4 := E.cell 4
  exact bodyPost_ret (v := .tuple #[.agg #[.int .i64 0, .slice none 0 0, .int .u32 0, .slice none 0 0, .int .u32 0], .bool false]) (by simp [results, Tryd.results19, go_sem, z0, z1, z2, z3, z4]) rfl ⟨_, rfl, Ar.zero _, GE⟩
set_option maxHeartbeats 1000000 in
theorem ansp_2 {f : AR} {p1 : Option Addr} {k1 : Nat} {p2 : Option Addr} {k2 : Nat} {pm : Option Addr} {m km : Nat} {ms : List Int} {ip : Int} (h1 : (f.op != 1) = false) (h2 : (f.ti != ip) = false) (h3 : ((m : Int) == 6) = false) {w : World} (hb1 : Buf w (.slice p1 f.sm.length k1) f.sm) (hb2 : Buf w (.slice p2 f.tm.length k2) f.tm) (hbm : Buf w (.slice pm m km) ms) :
    Calls Tryd.prog 19 #[.agg #[.int .i64 f.op, .slice p1 f.sm.length k1, .int .u32 f.si, .slice p2 f.tm.length k2, .int .u32 f.ti], .slice pm m km, .int .u32 ip] w fun e w' => ∃ u, e = .returned (.tuple #[u, .bool false]) ∧ Ar w' u zA ∧ Grew w w' := by
  have H1 := Lib.hid hb1
  have H2 := Lib.hid hb2
  have HM := Lib.hid hbm
  clear hb1 hb2 hbm
  go_enter Tryd.func19, Tryd.ntmps19
  go_upto_region 1 with fail
  have hR0 : Blk ((w.alloc (.cells #[.int .i64 f.op, .slice p1 f.sm.length k1, .int .u32 f.si, .slice p2 f.tm.length k2, .int .u32 f.ti] 34)).alloc (.cells #[.int .i64 0, .slice none 0 0, .int .u32 0, .slice none 0 0, .int .u32 0] 34)) (w.heap.size + 1) #[.int .i64 0, .slice none 0 0, .int .u32 0, .slice none 0 0, .int .u32 0] 34 := Blk.new _ _ _ _ (by simp)
  have hB0 : Blk ((w.alloc (.cells #[.int .i64 f.op, .slice p1 f.sm.length k1, .int .u32 f.si, .slice p2 f.tm.length k2, .int .u32 f.ti] 34)).alloc (.cells #[.int .i64 0, .slice none 0 0, .int .u32 0, .slice none 0 0, .int .u32 0] 34)) w.heap.size #[.int .i64 f.op, .slice p1 f.sm.length k1, .int .u32 f.si, .slice p2 f.tm.length k2, .int .u32 f.ti] 34 := (Blk.new _ _ _ _ rfl).alloc _
  have g0 : Grew w ((w.alloc (.cells #[.int .i64 f.op, .slice p1 f.sm.length k1, .int .u32 f.si, .slice p2 f.tm.length k2, .int .u32 f.ti] 34)).alloc (.cells #[.int .i64 0, .slice none 0 0, .int .u32 0, .slice none 0 0, .int .u32 0] 34)) := ((Grew.refl _).alloc _).alloc _
  have hBR : w.heap.size ≠ w.heap.size + 1 := by omega
  have hlR : w.heap.size ≤ w.heap.size + 1 := by omega
  generalize ((w.alloc (.cells #[.int .i64 f.op, .slice p1 f.sm.length k1, .int .u32 f.si, .slice p2 f.tm.length k2, .int .u32 f.ti] 34)).alloc (.cells #[.int .i64 0, .slice none 0 0, .int .u32 0, .slice none 0 0, .int .u32 0] 34)) = w0 at *
  generalize w.heap.size + 1 = R at *
  generalize hlB : w.heap.size = B at *
  have y0 := hB0.cell 0
  have y1 := hB0.cell 1
  have y2 := hB0.cell 2
  have y3 := hB0.cell 3
  have y4 := hB0.cell 4
  have x0 := hR0.cell 0
  have x1 := hR0.cell 1
  have x2 := hR0.cell 2
  have x3 := hR0.cell 3
  have x4 := hR0.cell 4
  have f0 := hR0.free 0
  have f1 := hR0.free 1
  have f2 := hR0.free 2
  have f3 := hR0.free 3
  have f4 := hR0.free 4
  go_wp2_with (first | (go_at_call 34; refine (isMac_c _ _ _ _ h3 _).mono ?_; rintro e w2 ⟨rfl, h2⟩; obtain rfl := h2.symm))
  have E := (((((hR0.set (o := 0) (.int .i64 0)).set (o := 1) (.slice none 0 0)).set (o := 2) (.int .u32 0)).set (o := 3) (.slice none 0 0)).set (o := 4) (.int .u32 0))
  have GE := (((((g0.setCell (b := R) (o := 0) (by omega) (.int .i64 0)).setCell (b := R) (o := 1) (by omega) (.slice none 0 0)).setCell (b := R) (o := 2) (by omega) (.int .u32 0)).setCell (b := R) (o := 3) (by omega) (.slice none 0 0)).setCell (b := R) (o := 4) (by omega) (.int .u32 0))
  have z0 := E.cell 0
  have z1 := E.cell 1
  have z2 := E.cell 2
  have z3 := E.cell 3
  have z4 := E.cell 4
  exact bodyPost_ret (v := .tuple #[.agg #[.int .i64 0, .slice none 0 0, .int .u32 0, .slice none 0 0, .int .u32 0], .bool false]) (by simp [results, Tryd.results19, go_sem, z0, z1, z2, z3, z4]) rfl ⟨_, rfl, Ar.zero _, GE⟩
set_option maxHeartbeats 1000000 in
theorem ansp_3 {f : AR} {p1 : Option Addr} {k1 : Nat} {p2 : Option Addr} {k2 : Nat} {pm : Option Addr} {m km : Nat} {ms : List Int} {ip : Int} (h1 : (f.op != 1) = false) (h2 : (f.ti != ip) = false) (h3 : ((m : Int) == 6) = true) (hm : m = ms.length) (hlm : ms.length ≤ 140737488355328) (hls : f.sm.length ≤ 140737488355328) (hip : u32I ip) (hsi : u32I f.si) {w : World} (hb1 : Buf w (.slice p1 f.sm.length k1) f.sm) (hb2 : Buf w (.slice p2 f.tm.length k2) f.tm) (hbm : Buf w (.slice pm m km) ms) :
    Calls Tryd.prog 19 #[.agg #[.int .i64 f.op, .slice p1 f.sm.length k1, .int .u32 f.si, .slice p2 f.tm.length k2, .int .u32 f.ti], .slice pm m km, .int .u32 ip] w fun e w' => ∃ u, e = .returned (.tuple #[u, .bool true]) ∧ Ar w' u ⟨2, ms, ip, f.sm, f.si⟩ ∧ Grew w w' := by
  subst hm
  have H1 := Lib.hid hb1
  have H2 := Lib.hid hb2
  have HM := Lib.hid hbm
  clear hb1 hb2 hbm
  go_enter Tryd.func19, Tryd.ntmps19
  go_upto_region 1 with fail
  have hR0 : Blk ((w.alloc (.cells #[.int .i64 f.op, .slice p1 f.sm.length k1, .int .u32 f.si, .slice p2 f.tm.length k2, .int .u32 f.ti] 34)).alloc (.cells #[.int .i64 0, .slice none 0 0, .int .u32 0, .slice none 0 0, .int .u32 0] 34)) (w.heap.size + 1) #[.int .i64 0, .slice none 0 0, .int .u32 0, .slice none 0 0, .int .u32 0] 34 := Blk.new _ _ _ _ (by simp)
  have hB0 : Blk ((w.alloc (.cells #[.int .i64 f.op, .slice p1 f.sm.length k1, .int .u32 f.si, .slice p2 f.tm.length k2, .int .u32 f.ti] 34)).alloc (.cells #[.int .i64 0, .slice none 0 0, .int .u32 0, .slice none 0 0, .int .u32 0] 34)) w.heap.size #[.int .i64 f.op, .slice p1 f.sm.length k1, .int .u32 f.si, .slice p2 f.tm.length k2, .int .u32 f.ti] 34 := (Blk.new _ _ _ _ rfl).alloc _
  have g0 : Grew w ((w.alloc (.cells #[.int .i64 f.op, .slice p1 f.sm.length k1, .int .u32 f.si, .slice p2 f.tm.length k2, .int .u32 f.ti] 34)).alloc (.cells #[.int .i64 0, .slice none 0 0, .int .u32 0, .slice none 0 0, .int .u32 0] 34)) := ((Grew.refl _).alloc _).alloc _
  have hBR : w.heap.size ≠ w.heap.size + 1 := by omega
  have hlR : w.heap.size ≤ w.heap.size + 1 := by omega
  generalize ((w.alloc (.cells #[.int .i64 f.op, .slice p1 f.sm.length k1, .int .u32 f.si, .slice p2 f.tm.length k2, .int .u32 f.ti] 34)).alloc (.cells #[.int .i64 0, .slice none 0 0, .int .u32 0, .slice none 0 0, .int .u32 0] 34)) = w0 at *
  generalize w.heap.size + 1 = R at *
  generalize hlB : w.heap.size = B at *
  have y0 := hB0.cell 0
  have y1 := hB0.cell 1
  have y2 := hB0.cell 2
  have y3 := hB0.cell 3
  have y4 := hB0.cell 4
  go_upto_region 3 with (first | (go_at_call 34; refine (isMac_c _ _ _ _ h3 _).mono ?_; rintro e w2 ⟨rfl, h2⟩; obtain rfl := h2.symm))
  have HR0 := Lib.hid hR0.drew
  have hst : Grew w w0.drew ∧ Blk w0.drew B #[.int .i64 f.op, .slice p1 f.sm.length k1, .int .u32 f.si, .slice p2 f.tm.length k2, .int .u32 f.ti] 34 := ⟨g0.drew1, hB0.drew⟩
  refine wp_region_held_drew (S := fun w' => Grew w w' ∧ Blk w' B #[.int .i64 f.op, .slice p1 f.sm.length k1, .int .u32 f.si, .slice p2 f.tm.length k2, .int .u32 f.ti] 34) (by kernel_rfl) (by exact hst) (fun hHeld => ?_)
  replace hHeld : Grew w w0.drew ∧ Blk w0.drew B #[.int .i64 f.op, .slice p1 f.sm.length k1, .int .u32 f.si, .slice p2 f.tm.length k2, .int .u32 f.ti] 34 := hHeld
  generalize w0.drew = wq0 at *
  refine wpAnyH_take (i := 0) (v := ?_) rfl (by kernel_rfl) (by kernel_rfl) (by kernel_rfl) (fun _ _ _ h => h) (Or.inl ⟨by rfl, ?_⟩) hHeld ?_
  rotate_left
  · intro wq hSw
    replace hSw : Grew w wq ∧ Blk wq B #[.int .i64 f.op, .slice p1 f.sm.length k1, .int .u32 f.si, .slice p2 f.tm.length k2, .int .u32 f.ti] 34 := hSw
    go_simp
    try with_reducible rfl
  try simp only [List.getElem_toArray, List.getElem_cons_succ, List.getElem_cons_zero, Act.put, List.setIfInBounds_toArray, List.set_cons_zero, List.set_cons_succ]
  refine wpAnyH_take (i := 2) (v := ?_) rfl (by kernel_rfl) (by kernel_rfl) (by kernel_rfl) (fun _ _ _ h => h) (Or.inl ⟨by rfl, ?_⟩) hHeld ?_
  rotate_left
  · intro wq hSw
    replace hSw : Grew w wq ∧ Blk wq B #[.int .i64 f.op, .slice p1 f.sm.length k1, .int .u32 f.si, .slice p2 f.tm.length k2, .int .u32 f.ti] 34 := hSw
    go_simp
    try with_reducible rfl
  try simp only [List.getElem_toArray, List.getElem_cons_succ, List.getElem_cons_zero, Act.put, List.setIfInBounds_toArray, List.set_cons_zero, List.set_cons_succ]
  refine wpAnyH_take (i := 3) (v := ?_) rfl (by kernel_rfl) (by kernel_rfl) (by kernel_rfl) (fun _ _ _ h => h) (Or.inl ⟨by rfl, ?_⟩) hHeld ?_
  rotate_left
  · intro wq hSw
    replace hSw : Grew w wq ∧ Blk wq B #[.int .i64 f.op, .slice p1 f.sm.length k1, .int .u32 f.si, .slice p2 f.tm.length k2, .int .u32 f.ti] 34 := hSw
    go_simp
    try with_reducible rfl
  try simp only [List.getElem_toArray, List.getElem_cons_succ, List.getElem_cons_zero, Act.put, List.setIfInBounds_toArray, List.set_cons_zero, List.set_cons_succ]
  refine wpAnyH_take (i := 4) (v := ?_) rfl (by kernel_rfl) (by kernel_rfl) (by kernel_rfl) (fun _ _ _ h => h) (Or.inl ⟨by rfl, ?_⟩) hHeld ?_
  rotate_left
  · intro wq hSw
    replace hSw : Grew w wq ∧ Blk wq B #[.int .i64 f.op, .slice p1 f.sm.length k1, .int .u32 f.si, .slice p2 f.tm.length k2, .int .u32 f.ti] 34 := hSw
    have y1 := hSw.2.cell 1
    go_simp
    try with_reducible rfl
  try simp only [List.getElem_toArray, List.getElem_cons_succ, List.getElem_cons_zero, Act.put, List.setIfInBounds_toArray, List.set_cons_zero, List.set_cons_succ]
  refine wpAnyH_take (i := 6) (v := ?_) rfl (by kernel_rfl) (by kernel_rfl) (by kernel_rfl) (fun _ _ _ h => h) (Or.inl ⟨by rfl, ?_⟩) hHeld ?_
  rotate_left
  · intro wq hSw
    replace hSw : Grew w wq ∧ Blk wq B #[.int .i64 f.op, .slice p1 f.sm.length k1, .int .u32 f.si, .slice p2 f.tm.length k2, .int .u32 f.ti] 34 := hSw
    go_simp
    try with_reducible rfl
  try simp only [List.getElem_toArray, List.getElem_cons_succ, List.getElem_cons_zero, Act.put, List.setIfInBounds_toArray, List.set_cons_zero, List.set_cons_succ]
  refine wpAnyH_take (i := 7) (v := ?_) rfl (by kernel_rfl) (by kernel_rfl) (by kernel_rfl) (fun _ _ _ h => h) (Or.inl ⟨by rfl, ?_⟩) hHeld ?_
  rotate_left
  · intro wq hSw
    replace hSw : Grew w wq ∧ Blk wq B #[.int .i64 f.op, .slice p1 f.sm.length k1, .int .u32 f.si, .slice p2 f.tm.length k2, .int .u32 f.ti] 34 := hSw
    have y2 := hSw.2.cell 2
    go_simp
    try with_reducible rfl
  try simp only [List.getElem_toArray, List.getElem_cons_succ, List.getElem_cons_zero, Act.put, List.setIfInBounds_toArray, List.set_cons_zero, List.set_cons_succ]
  refine wpAnyH_ready (rs := [1]) (by kernel_rfl) (by simp) ?_
  refine AllReadyH.cons rfl (fun K hK => ?_) AllReadyH.nil
  go_simp
  refine (cloneB_c hlm (HM.out.grew hHeld.1)).mono ?_
  rintro e wk1 ⟨pa, ca, rfl, hrow, HA, gk1⟩
  clear hrow
  replace HA := Lib.hid HA
  replace HR0 := Lib.hid (HR0.out.grew gk1)
  refine hK.out _ _ (⟨hHeld.1.trans gk1, hHeld.2.grew gk1⟩) (fun hHeld => ?_)
  clear hK K
  try simp only [List.getElem_toArray, List.getElem_cons_succ, List.getElem_cons_zero, Act.put, List.setIfInBounds_toArray, List.set_cons_zero, List.set_cons_succ]
  refine wpAnyH_ready (rs := [5]) (by kernel_rfl) (by simp) ?_
  refine AllReadyH.cons rfl (fun K hK => ?_) AllReadyH.nil
  go_simp
  refine (cloneB_c hls (H1.out.grew hHeld.1)).mono ?_
  rintro e wk2 ⟨pb, cb, rfl, hrow, HB, gk2⟩
  clear hrow
  replace HB := Lib.hid HB
  replace HR0 := Lib.hid (HR0.out.grew gk2)
  replace HA := Lib.hid (HA.out.grew gk2)
  refine hK.out _ _ (⟨hHeld.1.trans gk2, hHeld.2.grew gk2⟩) (fun hHeld => ?_)
  clear hK K
  try simp only [List.getElem_toArray, List.getElem_cons_succ, List.getElem_cons_zero, Act.put, List.setIfInBounds_toArray, List.set_cons_zero, List.set_cons_succ]
  refine wpAnyH_take (i := 8) (v := ?_) rfl (by kernel_rfl) (by kernel_rfl) (by kernel_rfl) (fun _ _ _ h => h) (Or.inl ⟨by rfl, ?_⟩) hHeld ?_
  rotate_left
  · intro wq hSw
    replace hSw : Grew w wq ∧ Blk wq B #[.int .i64 f.op, .slice p1 f.sm.length k1, .int .u32 f.si, .slice p2 f.tm.length k2, .int .u32 f.ti] 34 := hSw
    go_simp
    try with_reducible rfl
  try simp only [List.getElem_toArray, List.getElem_cons_succ, List.getElem_cons_zero, Act.put, List.setIfInBounds_toArray, List.set_cons_zero, List.set_cons_succ]
  refine wpAnyH_ready (rs := [9]) (by kernel_rfl) (by simp) ?_
  refine AllReadyH.cons rfl (fun K hK => ?_) AllReadyH.nil
  have hRk := HR0.out
  have x0 := hRk.cell 0
  have x1 := hRk.cell 1
  have x2 := hRk.cell 2
  have x3 := hRk.cell 3
  have x4 := hRk.cell 4
  have q0 := hRk.free 0
  have q1 := hRk.free 1
  have q2 := hRk.free 2
  have q3 := hRk.free 3
  have q4 := hRk.free 4
  go_simp
  have E := Lib.hid (((((hRk.set (o := 0) (.int .i64 2)).set (o := 1) (.slice pa ms.length ca)).set (o := 2) (.int .u32 ip)).set (o := 3) (.slice pb f.sm.length cb)).set (o := 4) (.int .u32 f.si))
  have KK := (((((BufsKept.box (o := 0) hRk (by simp [noU8]) (.int .i64 2)).trans (BufsKept.box (o := 1) (hRk.set (o := 0) (.int .i64 2)) (by simp [noU8]) (.slice pa ms.length ca))).trans (BufsKept.box (o := 2) ((hRk.set (o := 0) (.int .i64 2)).set (o := 1) (.slice pa ms.length ca)) (by simp [noU8]) (.int .u32 ip))).trans (BufsKept.box (o := 3) (((hRk.set (o := 0) (.int .i64 2)).set (o := 1) (.slice pa ms.length ca)).set (o := 2) (.int .u32 ip)) (by simp [noU8]) (.slice pb f.sm.length cb))).trans (BufsKept.box (o := 4) ((((hRk.set (o := 0) (.int .i64 2)).set (o := 1) (.slice pa ms.length ca)).set (o := 2) (.int .u32 ip)).set (o := 3) (.slice pb f.sm.length cb)) (by simp [noU8]) (.int .u32 f.si)))
  have GE := (((((hHeld.1.setCell (b := R) (o := 0) (by omega) (.int .i64 2)).setCell (b := R) (o := 1) (by omega) (.slice pa ms.length ca)).setCell (b := R) (o := 2) (by omega) (.int .u32 ip)).setCell (b := R) (o := 3) (by omega) (.slice pb f.sm.length cb)).setCell (b := R) (o := 4) (by omega) (.int .u32 f.si))
  replace HA := Lib.hid (KK _ _ HA.out)
  replace HB := Lib.hid (KK _ _ HB.out)
  refine hK.out _ _ (⟨GE, (((((hHeld.2.other (c := R) (o := 0) hBR (.int .i64 2)).other (c := R) (o := 1) hBR (.slice pa ms.length ca)).other (c := R) (o := 2) hBR (.int .u32 ip)).other (c := R) (o := 3) hBR (.slice pb f.sm.length cb)).other (c := R) (o := 4) hBR (.int .u32 f.si))⟩) (fun hHeld => ?_)
  clear hK K
  try simp only [List.getElem_toArray, List.getElem_cons_succ, List.getElem_cons_zero, Act.put, List.setIfInBounds_toArray, List.set_cons_zero, List.set_cons_succ]
  refine wpAnyH_ready (rs := [10]) (by kernel_rfl) (by simp) ?_
  refine AllReadyH.cons rfl (fun K hK => ?_) AllReadyH.nil
  go_simp
  refine hK.out _ _ hHeld (fun hHeld => ?_)
  clear hK K
  try simp only [List.getElem_toArray, List.getElem_cons_succ, List.getElem_cons_zero, Act.put, List.setIfInBounds_toArray, List.set_cons_zero, List.set_cons_succ]
  refine wpAnyH_done (by kernel_rfl) ?_ _
  try simp only [List.getElem_toArray, List.getElem_cons_succ, List.getElem_cons_zero, Act.put, List.setIfInBounds_toArray, List.set_cons_zero, List.set_cons_succ]
  replace E := E.out
  have z0 := E.cell 0
  have z1 := E.cell 1
  have z2 := E.cell 2
  have z3 := E.cell 3
  have z4 := E.cell 4
  go_wp2_with fail
  exact bodyPost_ret (v := .tuple #[.agg #[.int .i64 2, .slice pa ms.length ca, .int .u32 ip, .slice pb f.sm.length cb, .int .u32 f.si], .bool true]) (by simp [results, Tryd.results19, go_sem, z0, z1, z2, z3, z4]) rfl ⟨_, rfl, Ar.of HA.out HB.out (by unfold intI; omega) hip hsi, GE⟩
set_option maxHeartbeats 1000000 in
theorem ansr_0 {f : AR} {p1 : Option Addr} {k1 : Nat} {p2 : Option Addr} {k2 : Nat} {pm : Option Addr} {m km : Nat} {ms : List Int} {ip : Int} (h1 : (f.op != 1) = true) {w : World} (hb1 : Buf w (.slice p1 f.sm.length k1) f.sm) (hb2 : Buf w (.slice p2 f.tm.length k2) f.tm) (hbm : Buf w (.slice pm m km) ms) :
    Calls Tryd.prog 20 #[.agg #[.int .i64 f.op, .slice p1 f.sm.length k1, .int .u32 f.si, .slice p2 f.tm.length k2, .int .u32 f.ti], .slice pm m km, .int .u32 ip] w fun e w' => ∃ u, e = .returned (.tuple #[u, .bool false]) ∧ Ar w' u zA ∧ Grew w w' := by
  have H1 := Lib.hid hb1
  have H2 := Lib.hid hb2
  have HM := Lib.hid hbm
  clear hb1 hb2 hbm
  go_enter Tryd.func20, Tryd.ntmps20
  go_upto_region 1 with fail
  have hR0 : Blk ((w.alloc (.cells #[.int .i64 f.op, .slice p1 f.sm.length k1, .int .u32 f.si, .slice p2 f.tm.length k2, .int .u32 f.ti] 34)).alloc (.cells #[.int .i64 0, .slice none 0 0, .int .u32 0, .slice none 0 0, .int .u32 0] 34)) (w.heap.size + 1) #[.int .i64 0, .slice none 0 0, .int .u32 0, .slice none 0 0, .int .u32 0] 34 := Blk.new _ _ _ _ (by simp)
  have hB0 : Blk ((w.alloc (.cells #[.int .i64 f.op, .slice p1 f.sm.length k1, .int .u32 f.si, .slice p2 f.tm.length k2, .int .u32 f.ti] 34)).alloc (.cells #[.int .i64 0, .slice none 0 0, .int .u32 0, .slice none 0 0, .int .u32 0] 34)) w.heap.size #[.int .i64 f.op, .slice p1 f.sm.length k1, .int .u32 f.si, .slice p2 f.tm.length k2, .int .u32 f.ti] 34 := (Blk.new _ _ _ _ rfl).alloc _
  have g0 : Grew w ((w.alloc (.cells #[.int .i64 f.op, .slice p1 f.sm.length k1, .int .u32 f.si, .slice p2 f.tm.length k2, .int .u32 f.ti] 34)).alloc (.cells #[.int .i64 0, .slice none 0 0, .int .u32 0, .slice none 0 0, .int .u32 0] 34)) := ((Grew.refl _).alloc _).alloc _
  have hBR : w.heap.size ≠ w.heap.size + 1 := by omega
  have hlR : w.heap.size ≤ w.heap.size + 1 := by omega
  generalize ((w.alloc (.cells #[.int .i64 f.op, .slice p1 f.sm.length k1, .int .u32 f.si, .slice p2 f.tm.length k2, .int .u32 f.ti] 34)).alloc (.cells #[.int .i64 0, .slice none 0 0, .int .u32 0, .slice none 0 0, .int .u32 0] 34)) = w0 at *
  generalize w.heap.size + 1 = R at *
  generalize hlB : w.heap.size = B at *
  have y0 := hB0.cell 0
  have y1 := hB0.cell 1
  have y2 := hB0.cell 2
  have y3 := hB0.cell 3
  have y4 := hB0.cell 4
  have x0 := hR0.cell 0
  have x1 := hR0.cell 1
  have x2 := hR0.cell 2
  have x3 := hR0.cell 3
  have x4 := hR0.cell 4
  have f0 := hR0.free 0
  have f1 := hR0.free 1
  have f2 := hR0.free 2
  have f3 := hR0.free 3
  have f4 := hR0.free 4
  go_wp2_with (fail)
  have E := (((((hR0.set (o := 0) (.int .i64 0)).set (o := 1) (.slice none 0 0)).set (o := 2) (.int .u32 0)).set (o := 3) (.slice none 0 0)).set (o := 4) (.int .u32 0))
  have GE := (((((g0.setCell (b := R) (o := 0) (by omega) (.int .i64 0)).setCell (b := R) (o := 1) (by omega) (.slice none 0 0)).setCell (b := R) (o := 2) (by omega) (.int .u32 0)).setCell (b := R) (o := 3) (by omega) (.slice none 0 0)).setCell (b := R) (o := 4) (by omega) (.int .u32 0))
  have z0 := E.cell 0
  have z1 := E.cell 1
  have z2 := E.cell 2
  have z3 := E.cell 3
  have z4 := E.cell 4
  exact bodyPost_ret (v := .tuple #[.agg #[.int .i64 0, .slice none 0 0, .int .u32 0, .slice none 0 0, .int .u32 0], .bool false]) (by simp [results, Tryd.results20, go_sem, z0, z1, z2, z3, z4]) rfl ⟨_, rfl, Ar.zero _, GE⟩
set_option maxHeartbeats 1000000 in
theorem ansr_1 {f : AR} {p1 : Option Addr} {k1 : Nat} {p2 : Option Addr} {k2 : Nat} {pm : Option Addr} {m km : Nat} {ms : List Int} {ip : Int} (h1 : (f.op != 1) = false) (h2 : (f.ti != ip) = true) {w : World} (hb1 : Buf w (.slice p1 f.sm.length k1) f.sm) (hb2 : Buf w (.slice p2 f.tm.length k2) f.tm) (hbm : Buf w (.slice pm m km) ms) :
    Calls Tryd.prog 20 #[.agg #[.int .i64 f.op, .slice p1 f.sm.length k1, .int .u32 f.si, .slice p2 f.tm.length k2, .int .u32 f.ti], .slice pm m km, .int .u32 ip] w fun e w' => ∃ u, e = .returned (.tuple #[u, .bool false]) ∧ Ar w' u zA ∧ Grew w w' := by
  have H1 := Lib.hid hb1
  have H2 := Lib.hid hb2
  have HM := Lib.hid hbm
  clear hb1 hb2 hbm
  go_enter Tryd.func20, Tryd.ntmps20
  go_upto_region 1 with fail
  have hR0 : Blk ((w.alloc (.cells #[.int .i64 f.op, .slice p1 f.sm.length k1, .int .u32 f.si, .slice p2 f.tm.length k2, .int .u32 f.ti] 34)).alloc (.cells #[.int .i64 0, .slice none 0 0, .int .u32 0, .slice none 0 0, .int .u32 0] 34)) (w.heap.size + 1) #[.int .i64 0, .slice none 0 0, .int .u32 0, .slice none 0 0, .int .u32 0] 34 := Blk.new _ _ _ _ (by simp)
  have hB0 : Blk ((w.alloc (.cells #[.int .i64 f.op, .slice p1 f.sm.length k1, .int .u32 f.si, .slice p2 f.tm.length k2, .int .u32 f.ti] 34)).alloc (.cells #[.int .i64 0, .slice none 0 0, .int .u32 0, .slice none 0 0, .int .u32 0] 34)) w.heap.size #[.int .i64 f.op, .slice p1 f.sm.length k1, .int .u32 f.si, .slice p2 f.tm.length k2, .int .u32 f.ti] 34 := (Blk.new _ _ _ _ rfl).alloc _
  have g0 : Grew w ((w.alloc (.cells #[.int .i64 f.op, .slice p1 f.sm.length k1, .int .u32 f.si, .slice p2 f.tm.length k2, .int .u32 f.ti] 34)).alloc (.cells #[.int .i64 0, .slice none 0 0, .int .u32 0, .slice none 0 0, .int .u32 0] 34)) := ((Grew.refl _).alloc _).alloc _
  have hBR : w.heap.size ≠ w.heap.size + 1 := by omega
  have hlR : w.heap.size ≤ w.heap.size + 1 := by omega
  generalize ((w.alloc (.cells #[.int .i64 f.op, .slice p1 f.sm.length k1, .int .u32 f.si, .slice p2 f.tm.length k2, .int .u32 f.ti] 34)).alloc (.cells #[.int .i64 0, .slice none 0 0, .int .u32 0, .slice none 0 0, .int .u32 0] 34)) = w0 at *
  generalize w.heap.size + 1 = R at *
  generalize hlB : w.heap.size = B at *
  have y0 := hB0.cell 0
  have y1 := hB0.cell 1
  have y2 := hB0.cell 2
  have y3 := hB0.cell 3
  have y4 := hB0.cell 4
  have x0 := hR0.cell 0
  have x1 := hR0.cell 1
  have x2 := hR0.cell 2
  have x3 := hR0.cell 3
  have x4 := hR0.cell 4
  have f0 := hR0.free 0
  have f1 := hR0.free 1
  have f2 := hR0.free 2
  have f3 := hR0.free 3
  have f4 := hR0.free 4
  go_wp2_with (fail)
  have E := (((((hR0.set (o := 0) (.int .i64 0)).set (o := 1) (.slice none 0 0)).set (o := 2) (.int .u32 0)).set (o := 3) (.slice none 0 0)).set (o := 4) (.int .u32 0))
  have GE := (((((g0.setCell (b := R) (o := 0) (by omega) (.int .i64 0)).setCell (b := R) (o := 1) (by omega) (.slice none 0 0)).setCell (b := R) (o := 2) (by omega) (.int .u32 0)).setCell (b := R) (o := 3) (by omega) (.slice none 0 0)).setCell (b := R) (o := 4) (by omega) (.int .u32 0))
  have z0 := E.cell 0
  have z1 := E.cell 1
  have z2 := E.cell 2
  have z3 := E.cell 3
  have z4 := E.cell 4
  exact bodyPost_ret (v := .tuple #[.agg #[.int .i64 0, .slice none 0 0, .int .u32 0, .slice none 0 0, .int .u32 0], .bool false]) (by simp [results, Tryd.results20, go_sem, z0, z1, z2, z3, z4]) rfl ⟨_, rfl, Ar.zero _, GE⟩
set_option maxHeartbeats 1000000 in
theorem ansr_2 {f : AR} {p1 : Option Addr} {k1 : Nat} {p2 : Option Addr} {k2 : Nat} {pm : Option Addr} {m km : Nat} {ms : List Int} {ip : Int} (h1 : (f.op != 1) = false) (h2 : (f.ti != ip) = false) (h3 : ((m : Int) != 6) = true) {w : World} (hb1 : Buf w (.slice p1 f.sm.length k1) f.sm) (hb2 : Buf w (.slice p2 f.tm.length k2) f.tm) (hbm : Buf w (.slice pm m km) ms) :
    Calls Tryd.prog 20 #[.agg #[.int .i64 f.op, .slice p1 f.sm.length k1, .int .u32 f.si, .slice p2 f.tm.length k2, .int .u32 f.ti], .slice pm m km, .int .u32 ip] w fun e w' => ∃ u, e = .returned (.tuple #[u, .bool false]) ∧ Ar w' u zA ∧ Grew w w' := by
  have H1 := Lib.hid hb1
  have H2 := Lib.hid hb2
  have HM := Lib.hid hbm
  clear hb1 hb2 hbm
  go_enter Tryd.func20, Tryd.ntmps20
  go_upto_region 1 with fail
  have hR0 : Blk ((w.alloc (.cells #[.int .i64 f.op, .slice p1 f.sm.length k1, .int .u32 f.si, .slice p2 f.tm.length k2, .int .u32 f.ti] 34)).alloc (.cells #[.int .i64 0, .slice none 0 0, .int .u32 0, .slice none 0 0, .int .u32 0] 34)) (w.heap.size + 1) #[.int .i64 0, .slice none 0 0, .int .u32 0, .slice none 0 0, .int .u32 0] 34 := Blk.new _ _ _ _ (by simp)
  have hB0 : Blk ((w.alloc (.cells #[.int .i64 f.op, .slice p1 f.sm.length k1, .int .u32 f.si, .slice p2 f.tm.length k2, .int .u32 f.ti] 34)).alloc (.cells #[.int .i64 0, .slice none 0 0, .int .u32 0, .slice none 0 0, .int .u32 0] 34)) w.heap.size #[.int .i64 f.op, .slice p1 f.sm.length k1, .int .u32 f.si, .slice p2 f.tm.length k2, .int .u32 f.ti] 34 := (Blk.new _ _ _ _ rfl).alloc _
  have g0 : Grew w ((w.alloc (.cells #[.int .i64 f.op, .slice p1 f.sm.length k1, .int .u32 f.si, .slice p2 f.tm.length k2, .int .u32 f.ti] 34)).alloc (.cells #[.int .i64 0, .slice none 0 0, .int .u32 0, .slice none 0 0, .int .u32 0] 34)) := ((Grew.refl _).alloc _).alloc _
  have hBR : w.heap.size ≠ w.heap.size + 1 := by omega
  have hlR : w.heap.size ≤ w.heap.size + 1 := by omega
  generalize ((w.alloc (.cells #[.int .i64 f.op, .slice p1 f.sm.length k1, .int .u32 f.si, .slice p2 f.tm.length k2, .int .u32 f.ti] 34)).alloc (.cells #[.int .i64 0, .slice none 0 0, .int .u32 0, .slice none 0 0, .int .u32 0] 34)) = w0 at *
  generalize w.heap.size + 1 = R at *
  generalize hlB : w.heap.size = B at *
  have y0 := hB0.cell 0
  have y1 := hB0.cell 1
  have y2 := hB0.cell 2
  have y3 := hB0.cell 3
  have y4 := hB0.cell 4
  have x0 := hR0.cell 0
  have x1 := hR0.cell 1
  have x2 := hR0.cell 2
  have x3 := hR0.cell 3
  have x4 := hR0.cell 4
  have f0 := hR0.free 0
  have f1 := hR0.free 1
  have f2 := hR0.free 2
  have f3 := hR0.free 3
  have f4 := hR0.free 4
  go_wp2_with (fail)
  have E := (((((hR0.set (o := 0) (.int .i64 0)).set (o := 1) (.slice none 0 0)).set (o := 2) (.int .u32 0)).set (o := 3) (.slice none 0 0)).set (o := 4) (.int .u32 0))
  have GE := (((((g0.setCell (b := R) (o := 0) (by omega) (.int .i64 0)).setCell (b := R) (o := 1) (by omega) (.slice none 0 0)).setCell (b := R) (o := 2) (by omega) (.int .u32 0)).setCell (b := R) (o := 3) (by omega) (.slice none 0 0)).setCell (b := R) (o := 4) (by omega) (.int .u32 0))
  have z0 := E.cell 0
  have z1 := E.cell 1
  have z2 := E.cell 2
  have z3 := E.cell 3
  have z4 := E.cell 4
  exact bodyPost_ret (v := .tuple #[.agg #[.int .i64 0, .slice none 0 0, .int .u32 0, .slice none 0 0, .int .u32 0], .bool false]) (by simp [results, Tryd.results20, go_sem, z0, z1, z2, z3, z4]) rfl ⟨_, rfl, Ar.zero _, GE⟩
set_option maxHeartbeats 1000000 in
theorem ansr_3 {f : AR} {p1 : Option Addr} {k1 : Nat} {p2 : Option Addr} {k2 : Nat} {pm : Option Addr} {m km : Nat} {ms : List Int} {ip : Int} (h1 : (f.op != 1) = false) (h2 : (f.ti != ip) = false) (h3 : ((m : Int) != 6) = false) (hm : m = ms.length) (hlm : ms.length ≤ 140737488355328) (hls : f.sm.length ≤ 140737488355328) (hip : u32I ip) (hsi : u32I f.si) {w : World} (hb1 : Buf w (.slice p1 f.sm.length k1) f.sm) (hb2 : Buf w (.slice p2 f.tm.length k2) f.tm) (hbm : Buf w (.slice pm m km) ms) :
    Calls Tryd.prog 20 #[.agg #[.int .i64 f.op, .slice p1 f.sm.length k1, .int .u32 f.si, .slice p2 f.tm.length k2, .int .u32 f.ti], .slice pm m km, .int .u32 ip] w fun e w' => ∃ u, e = .returned (.tuple #[u, .bool true]) ∧ Ar w' u ⟨2, ms, ip, f.sm, f.si⟩ ∧ Grew w w' := by
  subst hm
  have H1 := Lib.hid hb1
  have H2 := Lib.hid hb2
  have HM := Lib.hid hbm
  clear hb1 hb2 hbm
  go_enter Tryd.func20, Tryd.ntmps20
  go_upto_region 1 with fail
  have hR0 : Blk ((w.alloc (.cells #[.int .i64 f.op, .slice p1 f.sm.length k1, .int .u32 f.si, .slice p2 f.tm.length k2, .int .u32 f.ti] 34)).alloc (.cells #[.int .i64 0, .slice none 0 0, .int .u32 0, .slice none 0 0, .int .u32 0] 34)) (w.heap.size + 1) #[.int .i64 0, .slice none 0 0, .int .u32 0, .slice none 0 0, .int .u32 0] 34 := Blk.new _ _ _ _ (by simp)
  have hB0 : Blk ((w.alloc (.cells #[.int .i64 f.op, .slice p1 f.sm.length k1, .int .u32 f.si, .slice p2 f.tm.length k2, .int .u32 f.ti] 34)).alloc (.cells #[.int .i64 0, .slice none 0 0, .int .u32 0, .slice none 0 0, .int .u32 0] 34)) w.heap.size #[.int .i64 f.op, .slice p1 f.sm.length k1, .int .u32 f.si, .slice p2 f.tm.length k2, .int .u32 f.ti] 34 := (Blk.new _ _ _ _ rfl).alloc _
  have g0 : Grew w ((w.alloc (.cells #[.int .i64 f.op, .slice p1 f.sm.length k1, .int .u32 f.si, .slice p2 f.tm.length k2, .int .u32 f.ti] 34)).alloc (.cells #[.int .i64 0, .slice none 0 0, .int .u32 0, .slice none 0 0, .int .u32 0] 34)) := ((Grew.refl _).alloc _).alloc _
  have hBR : w.heap.size ≠ w.heap.size + 1 := by omega
  have hlR : w.heap.size ≤ w.heap.size + 1 := by omega
  generalize ((w.alloc (.cells #[.int .i64 f.op, .slice p1 f.sm.length k1, .int .u32 f.si, .slice p2 f.tm.length k2, .int .u32 f.ti] 34)).alloc (.cells #[.int .i64 0, .slice none 0 0, .int .u32 0, .slice none 0 0, .int .u32 0] 34)) = w0 at *
  generalize w.heap.size + 1 = R at *
  generalize hlB : w.heap.size = B at *
  have y0 := hB0.cell 0
  have y1 := hB0.cell 1
  have y2 := hB0.cell 2
  have y3 := hB0.cell 3
  have y4 := hB0.cell 4
  go_upto_region 3 with (fail)
  have HR0 := Lib.hid hR0.drew
  have hst : Grew w w0.drew ∧ Blk w0.drew B #[.int .i64 f.op, .slice p1 f.sm.length k1, .int .u32 f.si, .slice p2 f.tm.length k2, .int .u32 f.ti] 34 := ⟨g0.drew1, hB0.drew⟩
  refine wp_region_held_drew (S := fun w' => Grew w w' ∧ Blk w' B #[.int .i64 f.op, .slice p1 f.sm.length k1, .int .u32 f.si, .slice p2 f.tm.length k2, .int .u32 f.ti] 34) (by kernel_rfl) (by exact hst) (fun hHeld => ?_)
  replace hHeld : Grew w w0.drew ∧ Blk w0.drew B #[.int .i64 f.op, .slice p1 f.sm.length k1, .int .u32 f.si, .slice p2 f.tm.length k2, .int .u32 f.ti] 34 := hHeld
  generalize w0.drew = wq0 at *
  refine wpAnyH_take (i := 0) (v := ?_) rfl (by kernel_rfl) (by kernel_rfl) (by kernel_rfl) (fun _ _ _ h => h) (Or.inl ⟨by rfl, ?_⟩) hHeld ?_
  rotate_left
  · intro wq hSw
    replace hSw : Grew w wq ∧ Blk wq B #[.int .i64 f.op, .slice p1 f.sm.length k1, .int .u32 f.si, .slice p2 f.tm.length k2, .int .u32 f.ti] 34 := hSw
    go_simp
    try with_reducible rfl
  try simp only [List.getElem_toArray, List.getElem_cons_succ, List.getElem_cons_zero, Act.put, List.setIfInBounds_toArray, List.set_cons_zero, List.set_cons_succ]
  refine wpAnyH_take (i := 2) (v := ?_) rfl (by kernel_rfl) (by kernel_rfl) (by kernel_rfl) (fun _ _ _ h => h) (Or.inl ⟨by rfl, ?_⟩) hHeld ?_
  rotate_left
  · intro wq hSw
    replace hSw : Grew w wq ∧ Blk wq B #[.int .i64 f.op, .slice p1 f.sm.length k1, .int .u32 f.si, .slice p2 f.tm.length k2, .int .u32 f.ti] 34 := hSw
    go_simp
    try with_reducible rfl
  try simp only [List.getElem_toArray, List.getElem_cons_succ, List.getElem_cons_zero, Act.put, List.setIfInBounds_toArray, List.set_cons_zero, List.set_cons_succ]
  refine wpAnyH_take (i := 3) (v := ?_) rfl (by kernel_rfl) (by kernel_rfl) (by kernel_rfl) (fun _ _ _ h => h) (Or.inl ⟨by rfl, ?_⟩) hHeld ?_
  rotate_left
  · intro wq hSw
    replace hSw : Grew w wq ∧ Blk wq B #[.int .i64 f.op, .slice p1 f.sm.length k1, .int .u32 f.si, .slice p2 f.tm.length k2, .int .u32 f.ti] 34 := hSw
    go_simp
    try with_reducible rfl
  try simp only [List.getElem_toArray, List.getElem_cons_succ, List.getElem_cons_zero, Act.put, List.setIfInBounds_toArray, List.set_cons_zero, List.set_cons_succ]
  refine wpAnyH_take (i := 4) (v := ?_) rfl (by kernel_rfl) (by kernel_rfl) (by kernel_rfl) (fun _ _ _ h => h) (Or.inl ⟨by rfl, ?_⟩) hHeld ?_
  rotate_left
  · intro wq hSw
    replace hSw : Grew w wq ∧ Blk wq B #[.int .i64 f.op, .slice p1 f.sm.length k1, .int .u32 f.si, .slice p2 f.tm.length k2, .int .u32 f.ti] 34 := hSw
    have y1 := hSw.2.cell 1
    go_simp
    try with_reducible rfl
  try simp only [List.getElem_toArray, List.getElem_cons_succ, List.getElem_cons_zero, Act.put, List.setIfInBounds_toArray, List.set_cons_zero, List.set_cons_succ]
  refine wpAnyH_take (i := 6) (v := ?_) rfl (by kernel_rfl) (by kernel_rfl) (by kernel_rfl) (fun _ _ _ h => h) (Or.inl ⟨by rfl, ?_⟩) hHeld ?_
  rotate_left
  · intro wq hSw
    replace hSw : Grew w wq ∧ Blk wq B #[.int .i64 f.op, .slice p1 f.sm.length k1, .int .u32 f.si, .slice p2 f.tm.length k2, .int .u32 f.ti] 34 := hSw
    go_simp
    try with_reducible rfl
  try simp only [List.getElem_toArray, List.getElem_cons_succ, List.getElem_cons_zero, Act.put, List.setIfInBounds_toArray, List.set_cons_zero, List.set_cons_succ]
  refine wpAnyH_take (i := 7) (v := ?_) rfl (by kernel_rfl) (by kernel_rfl) (by kernel_rfl) (fun _ _ _ h => h) (Or.inl ⟨by rfl, ?_⟩) hHeld ?_
  rotate_left
  · intro wq hSw
    replace hSw : Grew w wq ∧ Blk wq B #[.int .i64 f.op, .slice p1 f.sm.length k1, .int .u32 f.si, .slice p2 f.tm.length k2, .int .u32 f.ti] 34 := hSw
    have y2 := hSw.2.cell 2
    go_simp
    try with_reducible rfl
  try simp only [List.getElem_toArray, List.getElem_cons_succ, List.getElem_cons_zero, Act.put, List.setIfInBounds_toArray, List.set_cons_zero, List.set_cons_succ]
  refine wpAnyH_ready (rs := [1]) (by kernel_rfl) (by simp) ?_
  refine AllReadyH.cons rfl (fun K hK => ?_) AllReadyH.nil
  go_simp
  refine (own_c hlm (HM.out.grew hHeld.1)).mono ?_
  rintro e wk1 ⟨pa, ca, rfl, hrow, HA, gk1⟩
  clear hrow
  replace HA := Lib.hid HA
  replace HR0 := Lib.hid (HR0.out.grew gk1)
  refine hK.out _ _ (⟨hHeld.1.trans gk1, hHeld.2.grew gk1⟩) (fun hHeld => ?_)
  clear hK K
  try simp only [List.getElem_toArray, List.getElem_cons_succ, List.getElem_cons_zero, Act.put, List.setIfInBounds_toArray, List.set_cons_zero, List.set_cons_succ]
  refine wpAnyH_ready (rs := [5]) (by kernel_rfl) (by simp) ?_
  refine AllReadyH.cons rfl (fun K hK => ?_) AllReadyH.nil
  go_simp
  refine (own_c hls (H1.out.grew hHeld.1)).mono ?_
  rintro e wk2 ⟨pb, cb, rfl, hrow, HB, gk2⟩
  clear hrow
  replace HB := Lib.hid HB
  replace HR0 := Lib.hid (HR0.out.grew gk2)
  replace HA := Lib.hid (HA.out.grew gk2)
  refine hK.out _ _ (⟨hHeld.1.trans gk2, hHeld.2.grew gk2⟩) (fun hHeld => ?_)
  clear hK K
  try simp only [List.getElem_toArray, List.getElem_cons_succ, List.getElem_cons_zero, Act.put, List.setIfInBounds_toArray, List.set_cons_zero, List.set_cons_succ]
  refine wpAnyH_take (i := 8) (v := ?_) rfl (by kernel_rfl) (by kernel_rfl) (by kernel_rfl) (fun _ _ _ h => h) (Or.inl ⟨by rfl, ?_⟩) hHeld ?_
  rotate_left
  · intro wq hSw
    replace hSw : Grew w wq ∧ Blk wq B #[.int .i64 f.op, .slice p1 f.sm.length k1, .int .u32 f.si, .slice p2 f.tm.length k2, .int .u32 f.ti] 34 := hSw
    go_simp
    try with_reducible rfl
  try simp only [List.getElem_toArray, List.getElem_cons_succ, List.getElem_cons_zero, Act.put, List.setIfInBounds_toArray, List.set_cons_zero, List.set_cons_succ]
  refine wpAnyH_ready (rs := [9]) (by kernel_rfl) (by simp) ?_
  refine AllReadyH.cons rfl (fun K hK => ?_) AllReadyH.nil
  have hRk := HR0.out
  have x0 := hRk.cell 0
  have x1 := hRk.cell 1
  have x2 := hRk.cell 2
  have x3 := hRk.cell 3
  have x4 := hRk.cell 4
  have q0 := hRk.free 0
  have q1 := hRk.free 1
  have q2 := hRk.free 2
  have q3 := hRk.free 3
  have q4 := hRk.free 4
  go_simp
  have E := Lib.hid (((((hRk.set (o := 0) (.int .i64 2)).set (o := 1) (.slice pa ms.length ca)).set (o := 2) (.int .u32 ip)).set (o := 3) (.slice pb f.sm.length cb)).set (o := 4) (.int .u32 f.si))
  have KK := (((((BufsKept.box (o := 0) hRk (by simp [noU8]) (.int .i64 2)).trans (BufsKept.box (o := 1) (hRk.set (o := 0) (.int .i64 2)) (by simp [noU8]) (.slice pa ms.length ca))).trans (BufsKept.box (o := 2) ((hRk.set (o := 0) (.int .i64 2)).set (o := 1) (.slice pa ms.length ca)) (by simp [noU8]) (.int .u32 ip))).trans (BufsKept.box (o := 3) (((hRk.set (o := 0) (.int .i64 2)).set (o := 1) (.slice pa ms.length ca)).set (o := 2) (.int .u32 ip)) (by simp [noU8]) (.slice pb f.sm.length cb))).trans (BufsKept.box (o := 4) ((((hRk.set (o := 0) (.int .i64 2)).set (o := 1) (.slice pa ms.length ca)).set (o := 2) (.int .u32 ip)).set (o := 3) (.slice pb f.sm.length cb)) (by simp [noU8]) (.int .u32 f.si)))
  have GE := (((((hHeld.1.setCell (b := R) (o := 0) (by omega) (.int .i64 2)).setCell (b := R) (o := 1) (by omega) (.slice pa ms.length ca)).setCell (b := R) (o := 2) (by omega) (.int .u32 ip)).setCell (b := R) (o := 3) (by omega) (.slice pb f.sm.length cb)).setCell (b := R) (o := 4) (by omega) (.int .u32 f.si))
  replace HA := Lib.hid (KK _ _ HA.out)
  replace HB := Lib.hid (KK _ _ HB.out)
  refine hK.out _ _ (⟨GE, (((((hHeld.2.other (c := R) (o := 0) hBR (.int .i64 2)).other (c := R) (o := 1) hBR (.slice pa ms.length ca)).other (c := R) (o := 2) hBR (.int .u32 ip)).other (c := R) (o := 3) hBR (.slice pb f.sm.length cb)).other (c := R) (o := 4) hBR (.int .u32 f.si))⟩) (fun hHeld => ?_)
  clear hK K
  try simp only [List.getElem_toArray, List.getElem_cons_succ, List.getElem_cons_zero, Act.put, List.setIfInBounds_toArray, List.set_cons_zero, List.set_cons_succ]
  refine wpAnyH_ready (rs := [10]) (by kernel_rfl) (by simp) ?_
  refine AllReadyH.cons rfl (fun K hK => ?_) AllReadyH.nil
  go_simp
  refine hK.out _ _ hHeld (fun hHeld => ?_)
  clear hK K
  try simp only [List.getElem_toArray, List.getElem_cons_succ, List.getElem_cons_zero, Act.put, List.setIfInBounds_toArray, List.set_cons_zero, List.set_cons_succ]
  refine wpAnyH_done (by kernel_rfl) ?_ _
  try simp only [List.getElem_toArray, List.getElem_cons_succ, List.getElem_cons_zero, Act.put, List.setIfInBounds_toArray, List.set_cons_zero, List.set_cons_succ]
  replace E := E.out
  have z0 := E.cell 0
  have z1 := E.cell 1
  have z2 := E.cell 2
  have z3 := E.cell 3
  have z4 := E.cell 4
  go_wp2_with fail
  exact bodyPost_ret (v := .tuple #[.agg #[.int .i64 2, .slice pa ms.length ca, .int .u32 ip, .slice pb f.sm.length cb, .int .u32 f.si], .bool true]) (by simp [results, Tryd.results20, go_sem, z0, z1, z2, z3, z4]) rfl ⟨_, rfl, Ar.of HA.out HB.out (by unfold intI; omega) hip hsi, GE⟩
end Go.Proofs.YtolfaelalmmefaaDoor
