/-
  Contracts of package ram, and of the document's own: Inside, known sizes, what is copied, parts.
-/
import Derived.Test.YtoehdhhodidehaaRows
import Derived.Test.YtoehdhhodidehaaBuf
import Derived.Test.YtoehdhhodidehaaTail
import Derived.WalkKit
import Derived.Outline
import Derived.Handy
import Derived.StillTailTactics
import Derived.Deep.QuietTactic
import Derived.BigQuiet
import Derived.Deep.DeepCutAuto
set_option maxRecDepth 4000
set_option linter.unusedVariables false
set_option linter.unusedSimpArgs false
namespace Go.Proofs.Ytoehdhhodidehaa
open Go.RowKit

theorem grew_drewN {W w : World} (h : Grew W w) (n : Nat) : Grew W (w.drewN n) := h.drewN n

/-! ### Inside -/
/-- Are all n bytes from x on memory of m bytes? -/
def insideV (m : Nat) (x n : Int) : Bool := decide (0 ≤ n ∧ 2147483648 ≤ x ∧ x - 2147483648 ≤ m ∧ n ≤ m - (x - 2147483648))

theorem inside_c (a : Option Addr) (m c : Nat) (x n : Int) (hm : m ≤ maxLen) (hx0 : 0 ≤ x) (hx1 : x < 18446744073709551616) (hn0 : -9223372036854775808 ≤ n) (hn1 : n ≤ 9223372036854775807) (w : World) :
    Calls Try.prog 70 #[.agg #[.slice a m c], .int .u64 x, .int .i64 n] w fun e w' => e = .returned (.bool (insideV m x n)) ∧ Grew w w' := by
  unfold maxLen at hm
  by_cases h1 : n < 0
  · have hv : insideV m x n = false := by unfold insideV; exact decide_eq_false (by omega)
    have HV := Lib.hid hv
    clear hv
    go_enter Try.func70, Try.ntmps70
    go_wp2_with fail
    go_ret
    exact ⟨by rw [HV.out]; rfl, (Grew.refl _).alloc _⟩
  by_cases h2 : x < 2147483648
  · have hv : insideV m x n = false := by unfold insideV; exact decide_eq_false (by omega)
    have HV := Lib.hid hv
    clear hv
    have h1' : 0 ≤ n := by omega
    go_enter Try.func70, Try.ntmps70
    go_wp2_with fail
    go_ret
    exact ⟨by rw [HV.out]; rfl, (Grew.refl _).alloc _⟩
  have h1' : 0 ≤ n := by omega
  have h2' : 2147483648 ≤ x := by omega
  by_cases h3 : x - 2147483648 ≤ m
  · have hv : insideV m x n = decide (n ≤ m - (x - 2147483648)) := by unfold insideV; exact decide_eq_decide.2 (by omega)
    have HV := Lib.hid hv
    clear hv
    have h3' : x - 2147483648 ≤ (m : Int) := h3
    go_enter Try.func70, Try.ntmps70
    go_wp2_with fail
    go_quiet (fail)
    go_wp2_with fail
    go_ret
    exact ⟨by rw [HV.out]; rfl, ((Grew.refl _).alloc _).drewN _⟩
  · have hv : insideV m x n = false := by unfold insideV; exact decide_eq_false (by omega)
    have HV := Lib.hid hv
    clear hv
    have h3' : (m : Int) < x - 2147483648 := by omega
    go_enter Try.func70, Try.ntmps70
    go_wp2_with fail
    go_quiet (fail)
    go_wp2_with fail
    go_ret
    exact ⟨by rw [HV.out]; rfl, ((Grew.refl _).alloc _).drewN _⟩
theorem refInside_c (a : Option Addr) (m c : Nat) (x n : Int) (hm : m ≤ maxLen) (hx0 : 0 ≤ x) (hx1 : x < 18446744073709551616) (hn0 : -9223372036854775808 ≤ n) (hn1 : n ≤ 9223372036854775807) (w : World) :
    Calls Try.prog 50 #[.agg #[.slice a m c], .int .u64 x, .int .i64 n] w fun e w' => e = .returned (.bool (insideV m x n)) ∧ Grew w w' := by
  unfold maxLen at hm
  by_cases h1 : n < 0
  · have hv : insideV m x n = false := by unfold insideV; exact decide_eq_false (by omega)
    have HV := Lib.hid hv
    clear hv
    go_enter Try.func50, Try.ntmps50
    go_wp2_with fail
    go_ret
    exact ⟨by rw [HV.out]; rfl, (Grew.refl _).alloc _⟩
  by_cases h2 : x < 2147483648
  · have hv : insideV m x n = false := by unfold insideV; exact decide_eq_false (by omega)
    have HV := Lib.hid hv
    clear hv
    have h1' : 0 ≤ n := by omega
    go_enter Try.func50, Try.ntmps50
    go_wp2_with fail
    go_ret
    exact ⟨by rw [HV.out]; rfl, (Grew.refl _).alloc _⟩
  have h1' : 0 ≤ n := by omega
  have h2' : 2147483648 ≤ x := by omega
  by_cases h3 : x - 2147483648 ≤ m
  · have hv : insideV m x n = decide (n ≤ m - (x - 2147483648)) := by unfold insideV; exact decide_eq_decide.2 (by omega)
    have HV := Lib.hid hv
    clear hv
    have h3' : x - 2147483648 ≤ (m : Int) := h3
    go_enter Try.func50, Try.ntmps50
    go_wp2_with fail
    go_ret
    exact ⟨by rw [HV.out]; rfl, ((Grew.refl _).alloc _)⟩
  · have hv : insideV m x n = false := by unfold insideV; exact decide_eq_false (by omega)
    have HV := Lib.hid hv
    clear hv
    have h3' : (m : Int) < x - 2147483648 := by omega
    go_enter Try.func50, Try.ntmps50
    go_wp2_with fail
    go_ret
    exact ⟨by rw [HV.out]; rfl, ((Grew.refl _).alloc _)⟩

theorem insideV_no {m : Nat} {x n : Int} (h : insideV m x n = true) : ∃ lo k : Nat, x = 2147483648 + (lo : Int) ∧ n = (k : Int) ∧ lo + k ≤ m := by
  unfold insideV at h
  have h := of_decide_eq_true h
  exact ⟨(x - 2147483648).toNat, n.toNat, by omega, by omega, by omega⟩
theorem insideV_at (m lo k : Nat) : insideV m (2147483648 + (lo : Int)) k = decide (lo + k ≤ m) := by
  unfold insideV; exact decide_eq_decide.2 (by omega)

/-! ### Known sizes -/
def sizeV (n : Int) : Bool := decide (n = 1 ∨ n = 2 ∨ n = 4 ∨ n = 8)
theorem isSize_c (n : Int) (w : World) : Calls Try.prog 83 #[.int .i64 n] w fun e w' => e = .returned (.bool (sizeV n)) ∧ w = w' := by
  by_cases h1 : n = 1
  · subst h1; go_enter Try.func83, Try.ntmps83; go_wp2; go_ret; exact ⟨rfl, rfl⟩
  by_cases h2 : n = 2
  · subst h2; go_enter Try.func83, Try.ntmps83; go_wp2; go_ret; exact ⟨rfl, rfl⟩
  by_cases h4 : n = 4
  · subst h4; go_enter Try.func83, Try.ntmps83; go_wp2; go_ret; exact ⟨rfl, rfl⟩
  by_cases h8 : n = 8
  · subst h8; go_enter Try.func83, Try.ntmps83; go_wp2; go_ret; exact ⟨rfl, rfl⟩
  have hv : sizeV n = false := by unfold sizeV; exact decide_eq_false (by omega)
  have HV := Lib.hid hv
  clear hv
  go_enter Try.func83, Try.ntmps83
  go_wp2
  go_ret
  exact ⟨by rw [HV.out]; rfl, rfl⟩
theorem known_c (n : Int) (w : World) : Calls Try.prog 39 #[.int .i64 n] w fun e w' => e = .returned (.bool (sizeV n)) ∧ w = w' := by
  by_cases h1 : n = 1
  · subst h1; go_enter Try.func39, Try.ntmps39; go_wp2; go_ret; exact ⟨rfl, rfl⟩
  by_cases h2 : n = 2
  · subst h2; go_enter Try.func39, Try.ntmps39; go_wp2; go_ret; exact ⟨rfl, rfl⟩
  by_cases h4 : n = 4
  · subst h4; go_enter Try.func39, Try.ntmps39; go_wp2; go_ret; exact ⟨rfl, rfl⟩
  by_cases h8 : n = 8
  · subst h8; go_enter Try.func39, Try.ntmps39; go_wp2; go_ret; exact ⟨rfl, rfl⟩
  have hv : sizeV n = false := by unfold sizeV; exact decide_eq_false (by omega)
  have HV := Lib.hid hv
  clear hv
  have e1 : (n == 1) = false := by simpa using h1
  have e2 : (n == 2) = false := by simpa using h2
  have e4 : (n == 4) = false := by simpa using h4
  have e8 : (n == 8) = false := by simpa using h8
  go_enter Try.func39, Try.ntmps39
  go_wp2
  go_ret
  exact ⟨by rw [HV.out]; rfl, rfl⟩

/-! ### What is copied -/
theorem copied_c {v : Value} {xs : List Int} (w : World) (hb : Buf w v xs) (hl : xs.length ≤ 140737488355328) :
    Calls Try.prog 78 #[v] w fun e w' => ∃ g, e = .returned (.slice (some ⟨g, 0, none⟩) xs.length xs.length) ∧ Row w' w.heap.size (.slice (some ⟨g, 0, none⟩) xs.length xs.length) xs ∧ Grew w w' := by
  obtain ⟨a, c, rfl, hc, ha⟩ := hb.shape
  have HB := Lib.hid hb
  clear hb ha hc
  go_enter Try.func78, Try.ntmps78
  go_upto_region 2 with (refine wpList_make_b rfl (.tmp 5) (.tmp 5) rfl (Grew.refl _) .i64 .i64 _ _ xs.length rfl rfl rfl rfl (by omega) ?_; intro w1 HR g1)
  go_wp2_with (refine wpList_copy_b rfl (.tmp 7) (.tmp 8) rfl g1 HR.out rfl (HB.out.grew g1) (by rfl) 0 _ _ _ (by rfl) (fun _ => rfl) (by simp) ?_; intro w2 HR2 g2 o2)
  go_ret
  refine ⟨_, rfl, ?_, g2⟩
  have h := HR2.out
  rw [show lay (List.replicate xs.length 0) 0 (xs.take xs.length) = xs by simp [lay]] at h
  exact h
theorem own_c {v : Value} {xs : List Int} (w : World) (hb : Buf w v xs) (hl : xs.length ≤ 140737488355328) :
    Calls Try.prog 84 #[.agg #[v]] w fun e w' => ∃ g, e = .returned (.agg #[.slice (some ⟨g, 0, none⟩) xs.length xs.length]) ∧ Row w' w.heap.size (.slice (some ⟨g, 0, none⟩) xs.length xs.length) xs ∧ Grew w w' := by
  obtain ⟨a, c, rfl, hc, ha⟩ := hb.shape
  have HB := Lib.hid hb
  clear hb ha hc
  go_enter Try.func84, Try.ntmps84
  go_wp2_with fail
  refine (copied_c _ ((HB.out.grew ((Grew.refl _).alloc _)).grew ((Grew.refl _).alloc _)) hl).mono ?_
  rintro e w1 ⟨g, rfl, hr, g1⟩
  have HR := Lib.hid hr
  clear hr
  obtain ⟨c1, f1⟩ := gcell g1
  have hz : w.heap.size + 1 < w1.heap.size := by have := g1.size; simp at this; omega
  go_wp2_with fail
  have hs : w.heap.size + 1 < ((w.alloc (Obj.cells #[Value.slice a xs.length c] 27)).alloc (Obj.cells #[Value.slice none 0 0] 27)).heap.size := by simp
  have g2 := (((Grew.refl w).alloc (.cells #[.slice a xs.length c] 27)).alloc (.cells #[.slice none 0 0] 27)).trans g1
  have hrow := (HR.out.set (o := 0) hs (.slice (some ⟨g, 0, none⟩) xs.length xs.length)).low (b' := w.heap.size) (by omega)
  exact bodyPost_ret (v := .agg #[.slice (some ⟨g, 0, none⟩) xs.length xs.length]) (by simp [results, Try.results84, go_sem, c1, hz]) rfl ⟨g, rfl, hrow, g2.setCell (by omega) _⟩

/-! ### Parts -/
theorem part_yes {a : Option Addr} {m c : Nat} {xs : List Int} (lo k : Nat) (h : lo + k ≤ xs.length) (w : World) (hb : Buf w (.slice a m c) xs) :
    Calls Try.prog 77 #[.agg #[.slice a m c], .int .u64 (2147483648 + (lo : Int)), .int .i64 k] w fun e w' => ∃ a' c', e = .returned (.tuple #[.slice a' k c', .bool true]) ∧ Buf w' (.slice a' k c') (cutL xs lo (lo + k)) ∧ (0 < k → a' = a.map (·.add lo)) ∧ Grew w w' := by
  obtain ⟨rfl, hc⟩ := hb.lenEq
  have hm := hb.len
  obtain ⟨a', c', hcut, hat, hrun, q1, q2⟩ := hb.run_cut (lo := lo) (hi := lo + k) (by omega) h
  clear q1 q2
  rw [show lo + k - lo = k by omega] at hcut hat hrun
  have HA := Lib.hid hat
  have HC := Lib.hid hcut
  have hv : insideV xs.length (2147483648 + (lo : Int)) k = true := by rw [insideV_at]; exact decide_eq_true h
  obtain ⟨x, hx⟩ : ∃ x : Int, x = 2147483648 + (lo : Int) := ⟨_, rfl⟩
  have hrun' : ∀ w', (Instr.sliceAt 23 (.slice a xs.length c) (some (.int .u64 (x - 2147483648))) (some (.int .u64 (x - 2147483648 + k))) none).run Try.prog w' = .ok (.slice a' k c') w' := fun w' => by
    have := hrun .u64 .u64 w'
    rw [show x - 2147483648 + (k : Int) = ((lo + k : Nat) : Int) by omega, show x - 2147483648 = (lo : Int) by omega]
    exact this
  have HRUN := Lib.hid hrun'
  unfold maxLen at hm
  have b1 : 2147483648 ≤ x := by omega
  have b2 : x - 2147483648 + (k : Int) < 18446744073709551616 := by omega
  have b3 : x < 18446744073709551616 := by omega
  have hin : ∀ w, Calls Try.prog 70 #[.agg #[.slice a xs.length c], .int .u64 x, .int .i64 k] w fun e w' => e = .returned (.bool true) ∧ Grew w w' := fun w => by
    have := inside_c a xs.length c x k (by unfold maxLen; omega) (by omega) (by omega) (by omega) (by omega) w
    rw [show insideV xs.length x k = true by rw [hx]; exact hv] at this
    exact this
  have HIN := Lib.hid hin
  rw [← hx]
  have HX := Lib.hid hx
  clear hx hin hrun' hrun hv hat hcut hb
  go_enter Try.func77, Try.ntmps77
  go_wp2_with fail
  refine (HIN.out _).mono ?_
  rintro e w1 ⟨rfl, g1⟩
  obtain ⟨c1, f1⟩ := gcell g1
  go_wp2_with (refine wpList_cut rfl _ (.tmp 17) (some (.tmp 18)) (some (.tmp 22)) rfl _ (by exact HRUN.out _) ?_)
  go_ret2
  have g2 := ((Grew.refl w).alloc (.cells #[.slice a xs.length c] 27)).trans g1
  exact ⟨a', c', rfl, HC.out.grew g2, HA.out, g2⟩
theorem part_no {a : Option Addr} {m c : Nat} (x n : Int) (hm : m ≤ maxLen) (hx0 : 0 ≤ x) (hx1 : x < 18446744073709551616) (hn0 : -9223372036854775808 ≤ n) (hn1 : n ≤ 9223372036854775807) (h : insideV m x n = false) (w : World) :
    Calls Try.prog 77 #[.agg #[.slice a m c], .int .u64 x, .int .i64 n] w fun e w' => e = .returned (.tuple #[.slice none 0 0, .bool false]) ∧ Grew w w' := by
  have hin : ∀ w, Calls Try.prog 70 #[.agg #[.slice a m c], .int .u64 x, .int .i64 n] w fun e w' => e = .returned (.bool false) ∧ Grew w w' := fun w => by
    have := inside_c a m c x n hm hx0 hx1 hn0 hn1 w
    rwa [h] at this
  have HIN := Lib.hid hin
  clear hin h
  go_enter Try.func77, Try.ntmps77
  go_wp2_with fail
  refine (HIN.out _).mono ?_
  rintro e w1 ⟨rfl, g1⟩
  obtain ⟨c1, f1⟩ := gcell g1
  go_wp2_with fail
  go_ret2
  exact ⟨rfl, ((Grew.refl w).alloc (.cells #[.slice a m c] 27)).trans g1⟩
end Go.Proofs.Ytoehdhhodidehaa
