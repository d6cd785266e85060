/-
  The document's registers (drawbridgeref05): value, Read; what supervisor and machine write.
-/
import Derived.Test.YtpehfmchcjanhaaDoorCsrG
set_option linter.unusedVariables false
set_option linter.unusedSimpArgs false
namespace Go.Proofs.YtpehfmchcjanhaaDoor
open Go.RowKit

/-- Some number, and whether there is one. -/
def SomeV (b : Bool) (W : World) (e : Ending) (w' : World) : Prop := ∃ v : Int, e = .returned (.tuple #[.int .u64 v, .bool b]) ∧ Grew W w'
/-- y, once it is known to be a number of 64 bits. -/
def statY (y : Int) : Int := if y / 2048 % 4 = 2 then y - 4096 else y
def statV (x : Int) : Int := statY (bits .and .u64 x 8264106)
theorem and_bd (x m : Int) (h0 : 0 ≤ x) (h1 : x < 18446744073709551616) (m0 : 0 ≤ m) (m1 : m < 18446744073709551616) : 0 ≤ bits .and .u64 x m ∧ bits .and .u64 x m < 18446744073709551616 := by
  rw [u64_and x m h0 h1 m0 m1]
  have := Nat.and_le_left (n := x.toNat) (m := m.toNat)
  omega
theorem status_c (x : Int) (h0 : 0 ≤ x) (h1 : x < 18446744073709551616) (w : World) : Calls Tryd.prog 31 #[.int .u64 x] w fun e w' => e = .returned (.int .u64 (statV x)) ∧ w = w' := by
  have hb := and_bd x 8264106 h0 h1 (by decide) (by decide)
  unfold statV
  obtain ⟨y, hy⟩ : ∃ y, y = bits .and .u64 x 8264106 := ⟨_, rfl⟩
  rw [← hy] at hb ⊢
  obtain ⟨y0, y1⟩ := hb
  have HY := hy.symm
  clear hy
  unfold statY
  by_cases h : y / 2048 % 4 = 2
  · rw [if_pos h]
    have y2 : 4096 ≤ y := by omega
    go_enter Tryd.func31, Tryd.ntmps31
    go_wp2
    go_ret
    exact ⟨rfl, rfl⟩
  · rw [if_neg h]
    have h' : (y / 2048 % 4 == 2) = false := by simpa using h
    clear h
    go_enter Tryd.func31, Tryd.ntmps31
    go_wp2
    go_ret
    exact ⟨rfl, rfl⟩

set_option maxRecDepth 100000 in
theorem val_256 (c : Nat → Int) {W w : World} (hg : Grew W w) : Calls Tryd.prog 29 #[csV c, .int .i64 256] w (SomeV true W) := by
  go_enter Tryd.func29, Tryd.ntmps29
  go_wp2
  go_ret2
  exact ⟨_, rfl, hg.alloc _⟩
set_option maxRecDepth 100000 in
theorem val_260 (c : Nat → Int) {W w : World} (hg : Grew W w) : Calls Tryd.prog 29 #[csV c, .int .i64 260] w (SomeV true W) := by
  go_enter Tryd.func29, Tryd.ntmps29
  go_wp2
  go_ret2
  exact ⟨_, rfl, hg.alloc _⟩
set_option maxRecDepth 100000 in
theorem val_261 (c : Nat → Int) {W w : World} (hg : Grew W w) : Calls Tryd.prog 29 #[csV c, .int .i64 261] w (SomeV true W) := by
  go_enter Tryd.func29, Tryd.ntmps29
  go_wp2
  go_ret2
  exact ⟨_, rfl, hg.alloc _⟩
set_option maxRecDepth 100000 in
theorem val_320 (c : Nat → Int) {W w : World} (hg : Grew W w) : Calls Tryd.prog 29 #[csV c, .int .i64 320] w (SomeV true W) := by
  go_enter Tryd.func29, Tryd.ntmps29
  go_wp2
  go_ret2
  exact ⟨_, rfl, hg.alloc _⟩
set_option maxRecDepth 100000 in
theorem val_321 (c : Nat → Int) {W w : World} (hg : Grew W w) : Calls Tryd.prog 29 #[csV c, .int .i64 321] w (SomeV true W) := by
  go_enter Tryd.func29, Tryd.ntmps29
  go_wp2
  go_ret2
  exact ⟨_, rfl, hg.alloc _⟩
set_option maxRecDepth 100000 in
theorem val_322 (c : Nat → Int) {W w : World} (hg : Grew W w) : Calls Tryd.prog 29 #[csV c, .int .i64 322] w (SomeV true W) := by
  go_enter Tryd.func29, Tryd.ntmps29
  go_wp2
  go_ret2
  exact ⟨_, rfl, hg.alloc _⟩
set_option maxRecDepth 100000 in
theorem val_323 (c : Nat → Int) {W w : World} (hg : Grew W w) : Calls Tryd.prog 29 #[csV c, .int .i64 323] w (SomeV true W) := by
  go_enter Tryd.func29, Tryd.ntmps29
  go_wp2
  go_ret2
  exact ⟨_, rfl, hg.alloc _⟩
set_option maxRecDepth 100000 in
theorem val_324 (c : Nat → Int) {W w : World} (hg : Grew W w) : Calls Tryd.prog 29 #[csV c, .int .i64 324] w (SomeV true W) := by
  go_enter Tryd.func29, Tryd.ntmps29
  go_wp2
  go_ret2
  exact ⟨_, rfl, hg.alloc _⟩
set_option maxRecDepth 100000 in
theorem val_384 (c : Nat → Int) {W w : World} (hg : Grew W w) : Calls Tryd.prog 29 #[csV c, .int .i64 384] w (SomeV true W) := by
  go_enter Tryd.func29, Tryd.ntmps29
  go_wp2
  go_ret2
  exact ⟨_, rfl, hg.alloc _⟩
set_option maxRecDepth 100000 in
theorem val_768 (c : Nat → Int) {W w : World} (hg : Grew W w) : Calls Tryd.prog 29 #[csV c, .int .i64 768] w (SomeV true W) := by
  go_enter Tryd.func29, Tryd.ntmps29
  go_wp2
  go_ret2
  exact ⟨_, rfl, hg.alloc _⟩
set_option maxRecDepth 100000 in
theorem val_769 (c : Nat → Int) {W w : World} (hg : Grew W w) : Calls Tryd.prog 29 #[csV c, .int .i64 769] w (SomeV true W) := by
  go_enter Tryd.func29, Tryd.ntmps29
  go_wp2
  go_ret2
  exact ⟨_, rfl, hg.alloc _⟩
set_option maxRecDepth 100000 in
theorem val_770 (c : Nat → Int) {W w : World} (hg : Grew W w) : Calls Tryd.prog 29 #[csV c, .int .i64 770] w (SomeV true W) := by
  go_enter Tryd.func29, Tryd.ntmps29
  go_wp2
  go_ret2
  exact ⟨_, rfl, hg.alloc _⟩
set_option maxRecDepth 100000 in
theorem val_771 (c : Nat → Int) {W w : World} (hg : Grew W w) : Calls Tryd.prog 29 #[csV c, .int .i64 771] w (SomeV true W) := by
  go_enter Tryd.func29, Tryd.ntmps29
  go_wp2
  go_ret2
  exact ⟨_, rfl, hg.alloc _⟩
set_option maxRecDepth 100000 in
theorem val_772 (c : Nat → Int) {W w : World} (hg : Grew W w) : Calls Tryd.prog 29 #[csV c, .int .i64 772] w (SomeV true W) := by
  go_enter Tryd.func29, Tryd.ntmps29
  go_wp2
  go_ret2
  exact ⟨_, rfl, hg.alloc _⟩
set_option maxRecDepth 100000 in
theorem val_773 (c : Nat → Int) {W w : World} (hg : Grew W w) : Calls Tryd.prog 29 #[csV c, .int .i64 773] w (SomeV true W) := by
  go_enter Tryd.func29, Tryd.ntmps29
  go_wp2
  go_ret2
  exact ⟨_, rfl, hg.alloc _⟩
set_option maxRecDepth 100000 in
theorem val_832 (c : Nat → Int) {W w : World} (hg : Grew W w) : Calls Tryd.prog 29 #[csV c, .int .i64 832] w (SomeV true W) := by
  go_enter Tryd.func29, Tryd.ntmps29
  go_wp2
  go_ret2
  exact ⟨_, rfl, hg.alloc _⟩
set_option maxRecDepth 100000 in
theorem val_833 (c : Nat → Int) {W w : World} (hg : Grew W w) : Calls Tryd.prog 29 #[csV c, .int .i64 833] w (SomeV true W) := by
  go_enter Tryd.func29, Tryd.ntmps29
  go_wp2
  go_ret2
  exact ⟨_, rfl, hg.alloc _⟩
set_option maxRecDepth 100000 in
theorem val_834 (c : Nat → Int) {W w : World} (hg : Grew W w) : Calls Tryd.prog 29 #[csV c, .int .i64 834] w (SomeV true W) := by
  go_enter Tryd.func29, Tryd.ntmps29
  go_wp2
  go_ret2
  exact ⟨_, rfl, hg.alloc _⟩
set_option maxRecDepth 100000 in
theorem val_835 (c : Nat → Int) {W w : World} (hg : Grew W w) : Calls Tryd.prog 29 #[csV c, .int .i64 835] w (SomeV true W) := by
  go_enter Tryd.func29, Tryd.ntmps29
  go_wp2
  go_ret2
  exact ⟨_, rfl, hg.alloc _⟩
set_option maxRecDepth 100000 in
theorem val_836 (c : Nat → Int) {W w : World} (hg : Grew W w) : Calls Tryd.prog 29 #[csV c, .int .i64 836] w (SomeV true W) := by
  go_enter Tryd.func29, Tryd.ntmps29
  go_wp2
  go_ret2
  exact ⟨_, rfl, hg.alloc _⟩
set_option maxRecDepth 100000 in
theorem val_2816 (c : Nat → Int) {W w : World} (hg : Grew W w) : Calls Tryd.prog 29 #[csV c, .int .i64 2816] w (SomeV true W) := by
  go_enter Tryd.func29, Tryd.ntmps29
  go_wp2
  go_ret2
  exact ⟨_, rfl, hg.alloc _⟩
set_option maxRecDepth 100000 in
theorem val_3072 (c : Nat → Int) {W w : World} (hg : Grew W w) : Calls Tryd.prog 29 #[csV c, .int .i64 3072] w (SomeV true W) := by
  go_enter Tryd.func29, Tryd.ntmps29
  go_wp2
  go_ret2
  exact ⟨_, rfl, hg.alloc _⟩
set_option maxRecDepth 100000 in
theorem val_3857 (c : Nat → Int) {W w : World} (hg : Grew W w) : Calls Tryd.prog 29 #[csV c, .int .i64 3857] w (SomeV true W) := by
  go_enter Tryd.func29, Tryd.ntmps29
  go_wp2
  go_ret2
  exact ⟨_, rfl, hg.alloc _⟩
set_option maxRecDepth 100000 in
theorem val_3858 (c : Nat → Int) {W w : World} (hg : Grew W w) : Calls Tryd.prog 29 #[csV c, .int .i64 3858] w (SomeV true W) := by
  go_enter Tryd.func29, Tryd.ntmps29
  go_wp2
  go_ret2
  exact ⟨_, rfl, hg.alloc _⟩
set_option maxRecDepth 100000 in
theorem val_3859 (c : Nat → Int) {W w : World} (hg : Grew W w) : Calls Tryd.prog 29 #[csV c, .int .i64 3859] w (SomeV true W) := by
  go_enter Tryd.func29, Tryd.ntmps29
  go_wp2
  go_ret2
  exact ⟨_, rfl, hg.alloc _⟩
set_option maxRecDepth 100000 in
theorem val_3860 (c : Nat → Int) {W w : World} (hg : Grew W w) : Calls Tryd.prog 29 #[csV c, .int .i64 3860] w (SomeV true W) := by
  go_enter Tryd.func29, Tryd.ntmps29
  go_wp2
  go_ret2
  exact ⟨_, rfl, hg.alloc _⟩
set_option maxRecDepth 100000 in
theorem val_no (c : Nat → Int) (n : Int) (hn : (n == 256) = false ∧ (n == 260) = false ∧ (n == 261) = false ∧ (n == 320) = false ∧ (n == 321) = false ∧ (n == 322) = false ∧ (n == 323) = false ∧ (n == 324) = false ∧ (n == 384) = false ∧ (n == 768) = false ∧ (n == 769) = false ∧ (n == 770) = false ∧ (n == 771) = false ∧ (n == 772) = false ∧ (n == 773) = false ∧ (n == 832) = false ∧ (n == 833) = false ∧ (n == 834) = false ∧ (n == 835) = false ∧ (n == 836) = false ∧ (n == 2816) = false ∧ (n == 3072) = false ∧ (n == 3857) = false ∧ (n == 3858) = false ∧ (n == 3859) = false ∧ (n == 3860) = false) {W w : World} (hg : Grew W w) : Calls Tryd.prog 29 #[csV c, .int .i64 n] w (SomeV false W) := by
  obtain ⟨h256, h260, h261, h320, h321, h322, h323, h324, h384, h768, h769, h770, h771, h772, h773, h832, h833, h834, h835, h836, h2816, h3072, h3857, h3858, h3859, h3860⟩ := hn
  go_enter Tryd.func29, Tryd.ntmps29
  go_wp2
  go_ret2
  exact ⟨_, rfl, hg.alloc _⟩

theorem value_c (c : Nat → Int) (n : Int) {W w : World} (hg : Grew W w) : Calls Tryd.prog 29 #[csV c, .int .i64 n] w (SomeV (inB n) W) := by
  rcases in_cases n with ⟨k, hk, rfl⟩ | h
  · rw [in_yes hk]
    obtain rfl | rfl | rfl | rfl | rfl | rfl | rfl | rfl | rfl | rfl | rfl | rfl | rfl | rfl | rfl | rfl | rfl | rfl | rfl | rfl | rfl | rfl | rfl | rfl | rfl | rfl : k = 0 ∨ k = 1 ∨ k = 2 ∨ k = 3 ∨ k = 4 ∨ k = 5 ∨ k = 6 ∨ k = 7 ∨ k = 8 ∨ k = 9 ∨ k = 10 ∨ k = 11 ∨ k = 12 ∨ k = 13 ∨ k = 14 ∨ k = 15 ∨ k = 16 ∨ k = 17 ∨ k = 18 ∨ k = 19 ∨ k = 20 ∨ k = 21 ∨ k = 22 ∨ k = 23 ∨ k = 24 ∨ k = 25 := by omega
    · exact val_256 c hg
    · exact val_260 c hg
    · exact val_261 c hg
    · exact val_320 c hg
    · exact val_321 c hg
    · exact val_322 c hg
    · exact val_323 c hg
    · exact val_324 c hg
    · exact val_384 c hg
    · exact val_768 c hg
    · exact val_769 c hg
    · exact val_770 c hg
    · exact val_771 c hg
    · exact val_772 c hg
    · exact val_773 c hg
    · exact val_832 c hg
    · exact val_833 c hg
    · exact val_834 c hg
    · exact val_835 c hg
    · exact val_836 c hg
    · exact val_2816 c hg
    · exact val_3072 c hg
    · exact val_3857 c hg
    · exact val_3858 c hg
    · exact val_3859 c hg
    · exact val_3860 c hg
  · rw [in_no h]
    refine val_no c n ⟨?_, ?_, ?_, ?_, ?_, ?_, ?_, ?_, ?_, ?_, ?_, ?_, ?_, ?_, ?_, ?_, ?_, ?_, ?_, ?_, ?_, ?_, ?_, ?_, ?_, ?_⟩ hg
    all_goals (rw [beq_eq_false_iff_ne]; rintro rfl)
    · exact absurd (h 0 (by decide)) (by decide +kernel)
    · exact absurd (h 1 (by decide)) (by decide +kernel)
    · exact absurd (h 2 (by decide)) (by decide +kernel)
    · exact absurd (h 3 (by decide)) (by decide +kernel)
    · exact absurd (h 4 (by decide)) (by decide +kernel)
    · exact absurd (h 5 (by decide)) (by decide +kernel)
    · exact absurd (h 6 (by decide)) (by decide +kernel)
    · exact absurd (h 7 (by decide)) (by decide +kernel)
    · exact absurd (h 8 (by decide)) (by decide +kernel)
    · exact absurd (h 9 (by decide)) (by decide +kernel)
    · exact absurd (h 10 (by decide)) (by decide +kernel)
    · exact absurd (h 11 (by decide)) (by decide +kernel)
    · exact absurd (h 12 (by decide)) (by decide +kernel)
    · exact absurd (h 13 (by decide)) (by decide +kernel)
    · exact absurd (h 14 (by decide)) (by decide +kernel)
    · exact absurd (h 15 (by decide)) (by decide +kernel)
    · exact absurd (h 16 (by decide)) (by decide +kernel)
    · exact absurd (h 17 (by decide)) (by decide +kernel)
    · exact absurd (h 18 (by decide)) (by decide +kernel)
    · exact absurd (h 19 (by decide)) (by decide +kernel)
    · exact absurd (h 20 (by decide)) (by decide +kernel)
    · exact absurd (h 21 (by decide)) (by decide +kernel)
    · exact absurd (h 22 (by decide)) (by decide +kernel)
    · exact absurd (h 23 (by decide)) (by decide +kernel)
    · exact absurd (h 24 (by decide)) (by decide +kernel)
    · exact absurd (h 25 (by decide)) (by decide +kernel)

/-- The document's Read: is there a number? -/
def rdR (c : Nat → Int) (n p : Int) : Bool := inB n && (!decide (p < (n / 256).tmod 4) && !(n == 384 && (p == 1 && (c 0 / 1048576 % 2 == 1))))
def RdOk (c : Nat → Int) : Prop := 0 ≤ c 0 ∧ c 0 < 18446744073709551616
set_option maxRecDepth 100000 in
theorem refRead_no (c : Nat → Int) (n p : Int) (hn : inB n = false) {W w : World} (hg : Grew W w) :
    Calls Tryd.prog 19 #[csV c, .int .i64 n, .int .i64 p] w (SomeV false W) := by
  have hv := value_c c n (W := W) (w := w.alloc (.cells (csA c) 24)) (hg.alloc _)
  rw [hn] at hv
  clear hn
  go_enter Tryd.func19, Tryd.ntmps19
  go_wp2_with (first
    | ((with_reducible refine ld_cs rfl (.tmp 3) rfl _ rfl (Blk.new w _ _ _ rfl) ?_ ?_); (rotate_left 1))
    | fail)
  refine hv.mono ?_
  rintro e w1 ⟨v, rfl, g1⟩
  go_wp2_with fail
  · go_ret2
    exact ⟨_, rfl, g1⟩
  all_goals rfl
set_option maxRecDepth 100000 in
theorem refRead_low (c : Nat → Int) (n p : Int) (hn : inB n = true) (hl : decide (p < (n / 256).tmod 4) = true) {W w : World} (hg : Grew W w) :
    Calls Tryd.prog 19 #[csV c, .int .i64 n, .int .i64 p] w (SomeV false W) := by
  have hv := value_c c n (W := W) (w := w.alloc (.cells (csA c) 24)) (hg.alloc _)
  rw [hn] at hv
  clear hn
  go_enter Tryd.func19, Tryd.ntmps19
  go_wp2_with (first
    | ((with_reducible refine ld_cs rfl (.tmp 3) rfl _ rfl (Blk.new w _ _ _ rfl) ?_ ?_); (rotate_left 1))
    | fail)
  refine hv.mono ?_
  rintro e w1 ⟨v, rfl, g1⟩
  go_wp2_with fail
  · go_ret2
    exact ⟨_, rfl, g1⟩
  all_goals rfl
/-- Does the document's Read keep Satp from p? -/
def hidR (c : Nat → Int) (n p : Int) : Bool := n == 384 && (p == 1 && (c 0 / 1048576 % 2 == 1))

set_option maxRecDepth 100000 in
theorem refRead_n (c : Nat → Int) (n p : Int) (h1 : (n == 384) = false) (c0 : 0 ≤ c 0) (hn : inB (n) = true) (hl : decide ((p : Int) < (n / 256).tmod 4) = false) {W w : World} (hg : Grew W w) :
    Calls Tryd.prog 19 #[csV c, .int .i64 (n), .int .i64 p] w (SomeV true W) := by
  have hv := value_c c (n) (Grew.refl (w.alloc (.cells (csA c) 24)))
  rw [hn] at hv
  clear hn
  go_enter Tryd.func19, Tryd.ntmps19
  go_wp2_with (first
    | ((with_reducible refine ld_cs rfl (.tmp 3) rfl _ rfl (Blk.new w _ _ _ rfl) ?_ ?_); (rotate_left 1))
    | fail)
  refine hv.mono ?_
  rintro e w1 ⟨v, rfl, g1'⟩
  have g1 := (hg.alloc _).trans g1'
  have hc : w1.cell? ⟨w.heap.size, 0, none⟩ = some (.int .u64 (c 0)) := by rw [((Blk.new w (csA c) 24 _ rfl).grew g1').cell]; rfl
  clear hv
  go_wp2_with fail
  · go_ret2
    exact ⟨_, rfl, g1⟩
  all_goals rfl

set_option maxRecDepth 100000 in
theorem refRead_p (c : Nat → Int) (p : Int) (h1 : (p == 1) = false) (c0 : 0 ≤ c 0) (hn : inB (384) = true) (hl : decide ((p : Int) < 1) = false) {W w : World} (hg : Grew W w) :
    Calls Tryd.prog 19 #[csV c, .int .i64 (384), .int .i64 p] w (SomeV true W) := by
  have hv := value_c c (384) (Grew.refl (w.alloc (.cells (csA c) 24)))
  rw [hn] at hv
  clear hn
  go_enter Tryd.func19, Tryd.ntmps19
  go_wp2_with (first
    | ((with_reducible refine ld_cs rfl (.tmp 3) rfl _ rfl (Blk.new w _ _ _ rfl) ?_ ?_); (rotate_left 1))
    | fail)
  refine hv.mono ?_
  rintro e w1 ⟨v, rfl, g1'⟩
  have g1 := (hg.alloc _).trans g1'
  have hc : w1.cell? ⟨w.heap.size, 0, none⟩ = some (.int .u64 (c 0)) := by rw [((Blk.new w (csA c) 24 _ rfl).grew g1').cell]; rfl
  clear hv
  go_wp2_with fail
  · go_ret2
    exact ⟨_, rfl, g1⟩
  all_goals rfl

set_option maxRecDepth 100000 in
theorem refRead_s (c : Nat → Int) (h1 : (c 0 / 1048576 % 2 == 1) = false) (c0 : 0 ≤ c 0) (hn : inB (384) = true) (hl : decide ((1 : Int) < 1) = false) {W w : World} (hg : Grew W w) :
    Calls Tryd.prog 19 #[csV c, .int .i64 (384), .int .i64 1] w (SomeV true W) := by
  have hv := value_c c (384) (Grew.refl (w.alloc (.cells (csA c) 24)))
  rw [hn] at hv
  clear hn
  go_enter Tryd.func19, Tryd.ntmps19
  go_wp2_with (first
    | ((with_reducible refine ld_cs rfl (.tmp 3) rfl _ rfl (Blk.new w _ _ _ rfl) ?_ ?_); (rotate_left 1))
    | fail)
  refine hv.mono ?_
  rintro e w1 ⟨v, rfl, g1'⟩
  have g1 := (hg.alloc _).trans g1'
  have hc : w1.cell? ⟨w.heap.size, 0, none⟩ = some (.int .u64 (c 0)) := by rw [((Blk.new w (csA c) 24 _ rfl).grew g1').cell]; rfl
  clear hv
  go_wp2_with fail
  · go_ret2
    exact ⟨_, rfl, g1⟩
  all_goals rfl

set_option maxRecDepth 100000 in
theorem refRead_h (c : Nat → Int) (h1 : (c 0 / 1048576 % 2 == 1) = true) (c0 : 0 ≤ c 0) (hn : inB (384) = true) (hl : decide ((1 : Int) < 1) = false) {W w : World} (hg : Grew W w) :
    Calls Tryd.prog 19 #[csV c, .int .i64 (384), .int .i64 1] w (SomeV false W) := by
  have hv := value_c c (384) (Grew.refl (w.alloc (.cells (csA c) 24)))
  rw [hn] at hv
  clear hn
  go_enter Tryd.func19, Tryd.ntmps19
  go_wp2_with (first
    | ((with_reducible refine ld_cs rfl (.tmp 3) rfl _ rfl (Blk.new w _ _ _ rfl) ?_ ?_); (rotate_left 1))
    | fail)
  refine hv.mono ?_
  rintro e w1 ⟨v, rfl, g1'⟩
  have g1 := (hg.alloc _).trans g1'
  have hc : w1.cell? ⟨w.heap.size, 0, none⟩ = some (.int .u64 (c 0)) := by rw [((Blk.new w (csA c) 24 _ rfl).grew g1').cell]; rfl
  clear hv
  go_wp2_with fail
  · go_ret2
    exact ⟨_, rfl, g1⟩
  all_goals rfl


theorem refRead_c (c : Nat → Int) (c0 : 0 ≤ c 0) (n p : Int) {W w : World} (hg : Grew W w) :
    Calls Tryd.prog 19 #[csV c, .int .i64 n, .int .i64 p] w (SomeV (rdR c n p) W) := by
  unfold rdR
  cases hn : inB n
  · exact refRead_no c n p hn hg
  cases hl : decide (p < (n / 256).tmod 4)
  · cases h1 : n == 384
    · simpa using refRead_n c n p h1 c0 hn hl hg
    · obtain rfl : n = 384 := by simpa using h1
      have hl : decide (p < 1) = false := by simpa using hl
      cases h2 : p == 1
      · simpa using refRead_p c p h2 c0 hn hl hg
      · obtain rfl : p = 1 := by simpa using h2
        cases h3 : c 0 / 1048576 % 2 == 1
        · simpa using refRead_s c h3 c0 hn hl hg
        · simpa using refRead_h c h3 c0 hn hl hg
  · exact refRead_low c n p hn hl hg


set_option maxRecDepth 100000 in
set_option maxHeartbeats 1000000 in
theorem sup_256 (c : Nat → Int) (x : Int) (h0 : 0 ≤ x) (h1 : x < 18446744073709551616) {W w : World} (hg : Grew W w) : Calls Tryd.prog 20 #[csV c, .int .i64 256, .int .u64 x] w fun e w' => e = .returned (csV (upd c 0 (mrg (c 0) x 786722))) ∧ Grew W w' := by
  go_enter Tryd.func20, Tryd.ntmps20
  go_wp2_with (first
    | (go_at_call 30; refine (mixed_c _ _ _ _).mono ?_; rintro e w1 ⟨rfl, rfl⟩)
    | ((with_reducible refine ld_cs rfl (.tmp 3) rfl _ rfl (Blk.new2 _ _ _ _) ?_ ?_); (rotate_left 1))
    | ((with_reducible refine st_cs rfl (.tmp 6) (.tmp 69) rfl rfl (upd c 0 (mrg (c 0) x 786722)) (Blk.new2b _ _ _ _) ?_ ?_ ?_ ?_); (rotate_left 3)))
  any_goals rfl
  exact bodyPost_ret (v := csV (upd c 0 (mrg (c 0) x 786722))) (results_cell_row (p := 6) (ty := 24) Tryd.results20 _ _ (w.heap.size + 1) 24 (csA (upd c 0 (mrg (c 0) x 786722))) (0, 0) _ rfl (Blk.setRow (Blk.new2b _ _ _ _)) Tryd.underlying24 rfl csInfo) rfl ⟨rfl, ((hg.alloc _).alloc _).setRow (by have := hg.size; omega) _⟩


set_option maxRecDepth 100000 in
set_option maxHeartbeats 1000000 in
theorem sup_260 (c : Nat → Int) (x : Int) (h0 : 0 ≤ x) (h1 : x < 18446744073709551616) {W w : World} (hg : Grew W w) : Calls Tryd.prog 20 #[csV c, .int .i64 260, .int .u64 x] w fun e w' => e = .returned (csV (upd c 3 (mrg (c 3) x (bits .and .u64 (c 2) 2730)))) ∧ Grew W w' := by
  go_enter Tryd.func20, Tryd.ntmps20
  go_wp2_with (first
    | (go_at_call 30; refine (mixed_c _ _ _ _).mono ?_; rintro e w1 ⟨rfl, rfl⟩)
    | ((with_reducible refine ld_cs rfl (.tmp 3) rfl _ rfl (Blk.new2 _ _ _ _) ?_ ?_); (rotate_left 1))
    | ((with_reducible refine st_cs rfl (.tmp 6) (.tmp 69) rfl rfl (upd c 3 (mrg (c 3) x (bits .and .u64 (c 2) 2730))) (Blk.new2b _ _ _ _) ?_ ?_ ?_ ?_); (rotate_left 3)))
  any_goals rfl
  exact bodyPost_ret (v := csV (upd c 3 (mrg (c 3) x (bits .and .u64 (c 2) 2730)))) (results_cell_row (p := 6) (ty := 24) Tryd.results20 _ _ (w.heap.size + 1) 24 (csA (upd c 3 (mrg (c 3) x (bits .and .u64 (c 2) 2730)))) (0, 0) _ rfl (Blk.setRow (Blk.new2b _ _ _ _)) Tryd.underlying24 rfl csInfo) rfl ⟨rfl, ((hg.alloc _).alloc _).setRow (by have := hg.size; omega) _⟩


set_option maxRecDepth 100000 in
set_option maxHeartbeats 1000000 in
theorem sup_324 (c : Nat → Int) (x : Int) (h0 : 0 ≤ x) (h1 : x < 18446744073709551616) {W w : World} (hg : Grew W w) : Calls Tryd.prog 20 #[csV c, .int .i64 324, .int .u64 x] w fun e w' => e = .returned (csV (upd c 4 (mrg (c 4) x (bits .and .u64 (c 2) 2)))) ∧ Grew W w' := by
  go_enter Tryd.func20, Tryd.ntmps20
  go_wp2_with (first
    | (go_at_call 30; refine (mixed_c _ _ _ _).mono ?_; rintro e w1 ⟨rfl, rfl⟩)
    | ((with_reducible refine ld_cs rfl (.tmp 3) rfl _ rfl (Blk.new2 _ _ _ _) ?_ ?_); (rotate_left 1))
    | ((with_reducible refine st_cs rfl (.tmp 6) (.tmp 69) rfl rfl (upd c 4 (mrg (c 4) x (bits .and .u64 (c 2) 2))) (Blk.new2b _ _ _ _) ?_ ?_ ?_ ?_); (rotate_left 3)))
  any_goals rfl
  exact bodyPost_ret (v := csV (upd c 4 (mrg (c 4) x (bits .and .u64 (c 2) 2)))) (results_cell_row (p := 6) (ty := 24) Tryd.results20 _ _ (w.heap.size + 1) 24 (csA (upd c 4 (mrg (c 4) x (bits .and .u64 (c 2) 2)))) (0, 0) _ rfl (Blk.setRow (Blk.new2b _ _ _ _)) Tryd.underlying24 rfl csInfo) rfl ⟨rfl, ((hg.alloc _).alloc _).setRow (by have := hg.size; omega) _⟩


set_option maxRecDepth 100000 in
set_option maxHeartbeats 1000000 in
theorem sup_261 (c : Nat → Int) (x : Int) (h0 : 0 ≤ x) (h1 : x < 18446744073709551616) {W w : World} (hg : Grew W w) : Calls Tryd.prog 20 #[csV c, .int .i64 261, .int .u64 x] w fun e w' => e = .returned (csV (upd c 10 (bits .andNot .u64 x 2))) ∧ Grew W w' := by
  go_enter Tryd.func20, Tryd.ntmps20
  go_wp2_with (first
    | ((with_reducible refine ld_cs rfl (.tmp 3) rfl _ rfl (Blk.new2 _ _ _ _) ?_ ?_); (rotate_left 1))
    | ((with_reducible refine st_cs rfl (.tmp 6) (.tmp 69) rfl rfl (upd c 10 (bits .andNot .u64 x 2)) (Blk.new2b _ _ _ _) ?_ ?_ ?_ ?_); (rotate_left 3)))
  any_goals rfl
  exact bodyPost_ret (v := csV (upd c 10 (bits .andNot .u64 x 2))) (results_cell_row (p := 6) (ty := 24) Tryd.results20 _ _ (w.heap.size + 1) 24 (csA (upd c 10 (bits .andNot .u64 x 2))) (0, 0) _ rfl (Blk.setRow (Blk.new2b _ _ _ _)) Tryd.underlying24 rfl csInfo) rfl ⟨rfl, ((hg.alloc _).alloc _).setRow (by have := hg.size; omega) _⟩


set_option maxRecDepth 100000 in
set_option maxHeartbeats 1000000 in
theorem sup_320 (c : Nat → Int) (x : Int) (h0 : 0 ≤ x) (h1 : x < 18446744073709551616) {W w : World} (hg : Grew W w) : Calls Tryd.prog 20 #[csV c, .int .i64 320, .int .u64 x] w fun e w' => e = .returned (csV (upd c 11 (x))) ∧ Grew W w' := by
  go_enter Tryd.func20, Tryd.ntmps20
  go_wp2_with (first
    | ((with_reducible refine ld_cs rfl (.tmp 3) rfl _ rfl (Blk.new2 _ _ _ _) ?_ ?_); (rotate_left 1))
    | ((with_reducible refine st_cs rfl (.tmp 6) (.tmp 69) rfl rfl (upd c 11 (x)) (Blk.new2b _ _ _ _) ?_ ?_ ?_ ?_); (rotate_left 3)))
  any_goals rfl
  exact bodyPost_ret (v := csV (upd c 11 (x))) (results_cell_row (p := 6) (ty := 24) Tryd.results20 _ _ (w.heap.size + 1) 24 (csA (upd c 11 (x))) (0, 0) _ rfl (Blk.setRow (Blk.new2b _ _ _ _)) Tryd.underlying24 rfl csInfo) rfl ⟨rfl, ((hg.alloc _).alloc _).setRow (by have := hg.size; omega) _⟩


set_option maxRecDepth 100000 in
set_option maxHeartbeats 1000000 in
theorem sup_321 (c : Nat → Int) (x : Int) (h0 : 0 ≤ x) (h1 : x < 18446744073709551616) {W w : World} (hg : Grew W w) : Calls Tryd.prog 20 #[csV c, .int .i64 321, .int .u64 x] w fun e w' => e = .returned (csV (upd c 12 (bits .andNot .u64 x 1))) ∧ Grew W w' := by
  go_enter Tryd.func20, Tryd.ntmps20
  go_wp2_with (first
    | ((with_reducible refine ld_cs rfl (.tmp 3) rfl _ rfl (Blk.new2 _ _ _ _) ?_ ?_); (rotate_left 1))
    | ((with_reducible refine st_cs rfl (.tmp 6) (.tmp 69) rfl rfl (upd c 12 (bits .andNot .u64 x 1)) (Blk.new2b _ _ _ _) ?_ ?_ ?_ ?_); (rotate_left 3)))
  any_goals rfl
  exact bodyPost_ret (v := csV (upd c 12 (bits .andNot .u64 x 1))) (results_cell_row (p := 6) (ty := 24) Tryd.results20 _ _ (w.heap.size + 1) 24 (csA (upd c 12 (bits .andNot .u64 x 1))) (0, 0) _ rfl (Blk.setRow (Blk.new2b _ _ _ _)) Tryd.underlying24 rfl csInfo) rfl ⟨rfl, ((hg.alloc _).alloc _).setRow (by have := hg.size; omega) _⟩


set_option maxRecDepth 100000 in
set_option maxHeartbeats 1000000 in
theorem sup_322 (c : Nat → Int) (x : Int) (h0 : 0 ≤ x) (h1 : x < 18446744073709551616) {W w : World} (hg : Grew W w) : Calls Tryd.prog 20 #[csV c, .int .i64 322, .int .u64 x] w fun e w' => e = .returned (csV (upd c 13 (x))) ∧ Grew W w' := by
  go_enter Tryd.func20, Tryd.ntmps20
  go_wp2_with (first
    | ((with_reducible refine ld_cs rfl (.tmp 3) rfl _ rfl (Blk.new2 _ _ _ _) ?_ ?_); (rotate_left 1))
    | ((with_reducible refine st_cs rfl (.tmp 6) (.tmp 69) rfl rfl (upd c 13 (x)) (Blk.new2b _ _ _ _) ?_ ?_ ?_ ?_); (rotate_left 3)))
  any_goals rfl
  exact bodyPost_ret (v := csV (upd c 13 (x))) (results_cell_row (p := 6) (ty := 24) Tryd.results20 _ _ (w.heap.size + 1) 24 (csA (upd c 13 (x))) (0, 0) _ rfl (Blk.setRow (Blk.new2b _ _ _ _)) Tryd.underlying24 rfl csInfo) rfl ⟨rfl, ((hg.alloc _).alloc _).setRow (by have := hg.size; omega) _⟩


set_option maxRecDepth 100000 in
set_option maxHeartbeats 1000000 in
theorem sup_323 (c : Nat → Int) (x : Int) (h0 : 0 ≤ x) (h1 : x < 18446744073709551616) {W w : World} (hg : Grew W w) : Calls Tryd.prog 20 #[csV c, .int .i64 323, .int .u64 x] w fun e w' => e = .returned (csV (upd c 14 (x))) ∧ Grew W w' := by
  go_enter Tryd.func20, Tryd.ntmps20
  go_wp2_with (first
    | ((with_reducible refine ld_cs rfl (.tmp 3) rfl _ rfl (Blk.new2 _ _ _ _) ?_ ?_); (rotate_left 1))
    | ((with_reducible refine st_cs rfl (.tmp 6) (.tmp 69) rfl rfl (upd c 14 (x)) (Blk.new2b _ _ _ _) ?_ ?_ ?_ ?_); (rotate_left 3)))
  any_goals rfl
  exact bodyPost_ret (v := csV (upd c 14 (x))) (results_cell_row (p := 6) (ty := 24) Tryd.results20 _ _ (w.heap.size + 1) 24 (csA (upd c 14 (x))) (0, 0) _ rfl (Blk.setRow (Blk.new2b _ _ _ _)) Tryd.underlying24 rfl csInfo) rfl ⟨rfl, ((hg.alloc _).alloc _).setRow (by have := hg.size; omega) _⟩


set_option maxRecDepth 100000 in
set_option maxHeartbeats 1000000 in
theorem sup_satp0 (c : Nat → Int) (x : Int) (h0 : 0 ≤ x) (h1 : x < 18446744073709551616) (hs : (x / 1152921504606846976 == 0) = true) {W w : World} (hg : Grew W w) : Calls Tryd.prog 20 #[csV c, .int .i64 384, .int .u64 x] w fun e w' => e = .returned (csV (upd c 15 x)) ∧ Grew W w' := by
  go_enter Tryd.func20, Tryd.ntmps20
  go_wp2_with (first
    | ((with_reducible refine ld_cs rfl (.tmp 3) rfl _ rfl (Blk.new2 _ _ _ _) ?_ ?_); (rotate_left 1))
    | ((with_reducible refine st_cs rfl (.tmp 6) (.tmp 69) rfl rfl (upd c 15 x) (Blk.new2b _ _ _ _) ?_ ?_ ?_ ?_); (rotate_left 3)))
  any_goals rfl
  exact bodyPost_ret (v := csV (upd c 15 x)) (results_cell_row (p := 6) (ty := 24) Tryd.results20 _ _ (w.heap.size + 1) 24 (csA (upd c 15 x)) (0, 0) _ rfl (Blk.setRow (Blk.new2b _ _ _ _)) Tryd.underlying24 rfl csInfo) rfl ⟨rfl, ((hg.alloc _).alloc _).setRow (by have := hg.size; omega) _⟩


set_option maxRecDepth 100000 in
set_option maxHeartbeats 1000000 in
theorem sup_satp8 (c : Nat → Int) (x : Int) (h0 : 0 ≤ x) (h1 : x < 18446744073709551616) (hs : (x / 1152921504606846976 == 0) = false) (ht : (x / 1152921504606846976 == 8) = true) {W w : World} (hg : Grew W w) : Calls Tryd.prog 20 #[csV c, .int .i64 384, .int .u64 x] w fun e w' => e = .returned (csV (upd c 15 x)) ∧ Grew W w' := by
  go_enter Tryd.func20, Tryd.ntmps20
  go_wp2_with (first
    | ((with_reducible refine ld_cs rfl (.tmp 3) rfl _ rfl (Blk.new2 _ _ _ _) ?_ ?_); (rotate_left 1))
    | ((with_reducible refine st_cs rfl (.tmp 6) (.tmp 69) rfl rfl (upd c 15 x) (Blk.new2b _ _ _ _) ?_ ?_ ?_ ?_); (rotate_left 3)))
  any_goals rfl
  exact bodyPost_ret (v := csV (upd c 15 x)) (results_cell_row (p := 6) (ty := 24) Tryd.results20 _ _ (w.heap.size + 1) 24 (csA (upd c 15 x)) (0, 0) _ rfl (Blk.setRow (Blk.new2b _ _ _ _)) Tryd.underlying24 rfl csInfo) rfl ⟨rfl, ((hg.alloc _).alloc _).setRow (by have := hg.size; omega) _⟩


set_option maxRecDepth 100000 in
set_option maxHeartbeats 1000000 in
theorem sup_nosatp (c : Nat → Int) (x : Int) (h0 : 0 ≤ x) (h1 : x < 18446744073709551616) (hs : (x / 1152921504606846976 == 0) = false) (ht : (x / 1152921504606846976 == 8) = false) {W w : World} (hg : Grew W w) : Calls Tryd.prog 20 #[csV c, .int .i64 384, .int .u64 x] w fun e w' => e = .returned (csV (c)) ∧ Grew W w' := by
  go_enter Tryd.func20, Tryd.ntmps20
  go_wp2_with (first
    | ((with_reducible refine ld_cs rfl (.tmp 3) rfl _ rfl (Blk.new2 _ _ _ _) ?_ ?_); (rotate_left 1))
    | ((with_reducible refine st_cs rfl (.tmp 6) (.tmp 69) rfl rfl (c) (Blk.new2b _ _ _ _) ?_ ?_ ?_ ?_); (rotate_left 3)))
  any_goals rfl
  exact bodyPost_ret (v := csV (c)) (results_cell_row (p := 6) (ty := 24) Tryd.results20 _ _ (w.heap.size + 1) 24 (csA (c)) (0, 0) _ rfl (Blk.setRow (Blk.new2b _ _ _ _)) Tryd.underlying24 rfl csInfo) rfl ⟨rfl, ((hg.alloc _).alloc _).setRow (by have := hg.size; omega) _⟩


set_option maxRecDepth 100000 in
set_option maxHeartbeats 1000000 in
theorem sup_other (c : Nat → Int) (x : Int) (h0 : 0 ≤ x) (h1 : x < 18446744073709551616) (n : Int) (hn : (n == 256) = false ∧ (n == 260) = false ∧ (n == 324) = false ∧ (n == 261) = false ∧ (n == 320) = false ∧ (n == 321) = false ∧ (n == 322) = false ∧ (n == 323) = false ∧ (n == 384) = false) {W w : World} (hg : Grew W w) : Calls Tryd.prog 20 #[csV c, .int .i64 n, .int .u64 x] w fun e w' => e = .returned (csV (c)) ∧ Grew W w' := by
  obtain ⟨h256, h260, h324, h261, h320, h321, h322, h323, h384⟩ := hn
  go_enter Tryd.func20, Tryd.ntmps20
  go_wp2_with (first
    | ((with_reducible refine ld_cs rfl (.tmp 3) rfl _ rfl (Blk.new2 _ _ _ _) ?_ ?_); (rotate_left 1))
    | ((with_reducible refine st_cs rfl (.tmp 6) (.tmp 69) rfl rfl (c) (Blk.new2b _ _ _ _) ?_ ?_ ?_ ?_); (rotate_left 3)))
  any_goals rfl
  exact bodyPost_ret (v := csV (c)) (results_cell_row (p := 6) (ty := 24) Tryd.results20 _ _ (w.heap.size + 1) 24 (csA (c)) (0, 0) _ rfl (Blk.setRow (Blk.new2b _ _ _ _)) Tryd.underlying24 rfl csInfo) rfl ⟨rfl, ((hg.alloc _).alloc _).setRow (by have := hg.size; omega) _⟩

def supV (c : Nat → Int) (n x : Int) : Nat → Int :=
  if n = 256 then upd c 0 (mrg (c 0) x 786722) else
  if n = 260 then upd c 3 (mrg (c 3) x (bits .and .u64 (c 2) 2730)) else
  if n = 324 then upd c 4 (mrg (c 4) x (bits .and .u64 (c 2) 2)) else
  if n = 261 then upd c 10 (bits .andNot .u64 x 2) else
  if n = 320 then upd c 11 (x) else
  if n = 321 then upd c 12 (bits .andNot .u64 x 1) else
  if n = 322 then upd c 13 (x) else
  if n = 323 then upd c 14 (x) else
  if n = 384 then (if satpB x = true then upd c 15 x else c) else
  c

set_option maxRecDepth 100000 in
theorem sup_all (c : Nat → Int) (n x : Int) (h0 : 0 ≤ x) (h1 : x < 18446744073709551616) {W w : World} (hg : Grew W w) :
    Calls Tryd.prog 20 #[csV c, .int .i64 n, .int .u64 x] w fun e w' => e = .returned (csV (supV c n x)) ∧ Grew W w' := by
  unfold supV
  by_cases e256 : n = 256
  · subst e256
    simp only [Int.reduceEq, if_true, if_false]
    exact sup_256 c x h0 h1 hg
  rw [if_neg e256]
  by_cases e260 : n = 260
  · subst e260
    simp only [Int.reduceEq, if_true, if_false]
    exact sup_260 c x h0 h1 hg
  rw [if_neg e260]
  by_cases e324 : n = 324
  · subst e324
    simp only [Int.reduceEq, if_true, if_false]
    exact sup_324 c x h0 h1 hg
  rw [if_neg e324]
  by_cases e261 : n = 261
  · subst e261
    simp only [Int.reduceEq, if_true, if_false]
    exact sup_261 c x h0 h1 hg
  rw [if_neg e261]
  by_cases e320 : n = 320
  · subst e320
    simp only [Int.reduceEq, if_true, if_false]
    exact sup_320 c x h0 h1 hg
  rw [if_neg e320]
  by_cases e321 : n = 321
  · subst e321
    simp only [Int.reduceEq, if_true, if_false]
    exact sup_321 c x h0 h1 hg
  rw [if_neg e321]
  by_cases e322 : n = 322
  · subst e322
    simp only [Int.reduceEq, if_true, if_false]
    exact sup_322 c x h0 h1 hg
  rw [if_neg e322]
  by_cases e323 : n = 323
  · subst e323
    simp only [Int.reduceEq, if_true, if_false]
    exact sup_323 c x h0 h1 hg
  rw [if_neg e323]
  by_cases e384 : n = 384
  · subst e384
    simp only [Int.reduceEq, if_true, if_false]
    unfold satpB
    cases hs : x / 1152921504606846976 == 0
    · cases ht : x / 1152921504606846976 == 8
      · simpa using sup_nosatp c x h0 h1 hs ht hg
      · simpa using sup_satp8 c x h0 h1 hs ht hg
    · simpa using sup_satp0 c x h0 h1 hs hg
  rw [if_neg e384]
  exact sup_other c x h0 h1 n ⟨by simpa using e256, by simpa using e260, by simpa using e324, by simpa using e261, by simpa using e320, by simpa using e321, by simpa using e322, by simpa using e323, by simpa using e384⟩ hg

set_option maxRecDepth 100000 in
set_option maxHeartbeats 1000000 in
theorem mac_768 (c : Nat → Int) (x : Int) (h0 : 0 ≤ x) (h1 : x < 18446744073709551616) {W w : World} (hg : Grew W w) : Calls Tryd.prog 21 #[csV c, .int .i64 768, .int .u64 x] w fun e w' => e = .returned (csV (upd c 0 (statV x))) ∧ Grew W w' := by
  go_enter Tryd.func21, Tryd.ntmps21
  go_wp2_with (first
    | (go_at_call 31; refine (status_c _ h0 h1 _).mono ?_; rintro e w1 ⟨rfl, rfl⟩)
    | ((with_reducible refine ld_cs rfl (.tmp 3) rfl _ rfl (Blk.new2 _ _ _ _) ?_ ?_); (rotate_left 1))
    | ((with_reducible refine st_cs rfl (.tmp 6) (.tmp 61) rfl rfl (upd c 0 (statV x)) (Blk.new2b _ _ _ _) ?_ ?_ ?_ ?_); (rotate_left 3)))
  any_goals rfl
  exact bodyPost_ret (v := csV (upd c 0 (statV x))) (results_cell_row (p := 6) (ty := 24) Tryd.results21 _ _ (w.heap.size + 1) 24 (csA (upd c 0 (statV x))) (0, 0) _ rfl (Blk.setRow (Blk.new2b _ _ _ _)) Tryd.underlying24 rfl csInfo) rfl ⟨rfl, ((hg.alloc _).alloc _).setRow (by have := hg.size; omega) _⟩


set_option maxRecDepth 100000 in
set_option maxHeartbeats 1000000 in
theorem mac_770 (c : Nat → Int) (x : Int) (h0 : 0 ≤ x) (h1 : x < 18446744073709551616) {W w : World} (hg : Grew W w) : Calls Tryd.prog 21 #[csV c, .int .i64 770, .int .u64 x] w fun e w' => e = .returned (csV (upd c 1 (bits .and .u64 x 46079))) ∧ Grew W w' := by
  go_enter Tryd.func21, Tryd.ntmps21
  go_wp2_with (first
    | ((with_reducible refine ld_cs rfl (.tmp 3) rfl _ rfl (Blk.new2 _ _ _ _) ?_ ?_); (rotate_left 1))
    | ((with_reducible refine st_cs rfl (.tmp 6) (.tmp 61) rfl rfl (upd c 1 (bits .and .u64 x 46079)) (Blk.new2b _ _ _ _) ?_ ?_ ?_ ?_); (rotate_left 3)))
  any_goals rfl
  exact bodyPost_ret (v := csV (upd c 1 (bits .and .u64 x 46079))) (results_cell_row (p := 6) (ty := 24) Tryd.results21 _ _ (w.heap.size + 1) 24 (csA (upd c 1 (bits .and .u64 x 46079))) (0, 0) _ rfl (Blk.setRow (Blk.new2b _ _ _ _)) Tryd.underlying24 rfl csInfo) rfl ⟨rfl, ((hg.alloc _).alloc _).setRow (by have := hg.size; omega) _⟩


set_option maxRecDepth 100000 in
set_option maxHeartbeats 1000000 in
theorem mac_771 (c : Nat → Int) (x : Int) (h0 : 0 ≤ x) (h1 : x < 18446744073709551616) {W w : World} (hg : Grew W w) : Calls Tryd.prog 21 #[csV c, .int .i64 771, .int .u64 x] w fun e w' => e = .returned (csV (upd c 2 (bits .and .u64 x 546))) ∧ Grew W w' := by
  go_enter Tryd.func21, Tryd.ntmps21
  go_wp2_with (first
    | ((with_reducible refine ld_cs rfl (.tmp 3) rfl _ rfl (Blk.new2 _ _ _ _) ?_ ?_); (rotate_left 1))
    | ((with_reducible refine st_cs rfl (.tmp 6) (.tmp 61) rfl rfl (upd c 2 (bits .and .u64 x 546)) (Blk.new2b _ _ _ _) ?_ ?_ ?_ ?_); (rotate_left 3)))
  any_goals rfl
  exact bodyPost_ret (v := csV (upd c 2 (bits .and .u64 x 546))) (results_cell_row (p := 6) (ty := 24) Tryd.results21 _ _ (w.heap.size + 1) 24 (csA (upd c 2 (bits .and .u64 x 546))) (0, 0) _ rfl (Blk.setRow (Blk.new2b _ _ _ _)) Tryd.underlying24 rfl csInfo) rfl ⟨rfl, ((hg.alloc _).alloc _).setRow (by have := hg.size; omega) _⟩


set_option maxRecDepth 100000 in
set_option maxHeartbeats 1000000 in
theorem mac_772 (c : Nat → Int) (x : Int) (h0 : 0 ≤ x) (h1 : x < 18446744073709551616) {W w : World} (hg : Grew W w) : Calls Tryd.prog 21 #[csV c, .int .i64 772, .int .u64 x] w fun e w' => e = .returned (csV (upd c 3 (bits .and .u64 x 2730))) ∧ Grew W w' := by
  go_enter Tryd.func21, Tryd.ntmps21
  go_wp2_with (first
    | ((with_reducible refine ld_cs rfl (.tmp 3) rfl _ rfl (Blk.new2 _ _ _ _) ?_ ?_); (rotate_left 1))
    | ((with_reducible refine st_cs rfl (.tmp 6) (.tmp 61) rfl rfl (upd c 3 (bits .and .u64 x 2730)) (Blk.new2b _ _ _ _) ?_ ?_ ?_ ?_); (rotate_left 3)))
  any_goals rfl
  exact bodyPost_ret (v := csV (upd c 3 (bits .and .u64 x 2730))) (results_cell_row (p := 6) (ty := 24) Tryd.results21 _ _ (w.heap.size + 1) 24 (csA (upd c 3 (bits .and .u64 x 2730))) (0, 0) _ rfl (Blk.setRow (Blk.new2b _ _ _ _)) Tryd.underlying24 rfl csInfo) rfl ⟨rfl, ((hg.alloc _).alloc _).setRow (by have := hg.size; omega) _⟩


set_option maxRecDepth 100000 in
set_option maxHeartbeats 1000000 in
theorem mac_836 (c : Nat → Int) (x : Int) (h0 : 0 ≤ x) (h1 : x < 18446744073709551616) {W w : World} (hg : Grew W w) : Calls Tryd.prog 21 #[csV c, .int .i64 836, .int .u64 x] w fun e w' => e = .returned (csV (upd c 4 (mrg (c 4) x 546))) ∧ Grew W w' := by
  go_enter Tryd.func21, Tryd.ntmps21
  go_wp2_with (first
    | (go_at_call 30; refine (mixed_c _ _ _ _).mono ?_; rintro e w1 ⟨rfl, rfl⟩)
    | ((with_reducible refine ld_cs rfl (.tmp 3) rfl _ rfl (Blk.new2 _ _ _ _) ?_ ?_); (rotate_left 1))
    | ((with_reducible refine st_cs rfl (.tmp 6) (.tmp 61) rfl rfl (upd c 4 (mrg (c 4) x 546)) (Blk.new2b _ _ _ _) ?_ ?_ ?_ ?_); (rotate_left 3)))
  any_goals rfl
  exact bodyPost_ret (v := csV (upd c 4 (mrg (c 4) x 546))) (results_cell_row (p := 6) (ty := 24) Tryd.results21 _ _ (w.heap.size + 1) 24 (csA (upd c 4 (mrg (c 4) x 546))) (0, 0) _ rfl (Blk.setRow (Blk.new2b _ _ _ _)) Tryd.underlying24 rfl csInfo) rfl ⟨rfl, ((hg.alloc _).alloc _).setRow (by have := hg.size; omega) _⟩


set_option maxRecDepth 100000 in
set_option maxHeartbeats 1000000 in
theorem mac_773 (c : Nat → Int) (x : Int) (h0 : 0 ≤ x) (h1 : x < 18446744073709551616) {W w : World} (hg : Grew W w) : Calls Tryd.prog 21 #[csV c, .int .i64 773, .int .u64 x] w fun e w' => e = .returned (csV (upd c 5 (bits .andNot .u64 x 2))) ∧ Grew W w' := by
  go_enter Tryd.func21, Tryd.ntmps21
  go_wp2_with (first
    | ((with_reducible refine ld_cs rfl (.tmp 3) rfl _ rfl (Blk.new2 _ _ _ _) ?_ ?_); (rotate_left 1))
    | ((with_reducible refine st_cs rfl (.tmp 6) (.tmp 61) rfl rfl (upd c 5 (bits .andNot .u64 x 2)) (Blk.new2b _ _ _ _) ?_ ?_ ?_ ?_); (rotate_left 3)))
  any_goals rfl
  exact bodyPost_ret (v := csV (upd c 5 (bits .andNot .u64 x 2))) (results_cell_row (p := 6) (ty := 24) Tryd.results21 _ _ (w.heap.size + 1) 24 (csA (upd c 5 (bits .andNot .u64 x 2))) (0, 0) _ rfl (Blk.setRow (Blk.new2b _ _ _ _)) Tryd.underlying24 rfl csInfo) rfl ⟨rfl, ((hg.alloc _).alloc _).setRow (by have := hg.size; omega) _⟩


set_option maxRecDepth 100000 in
set_option maxHeartbeats 1000000 in
theorem mac_832 (c : Nat → Int) (x : Int) (h0 : 0 ≤ x) (h1 : x < 18446744073709551616) {W w : World} (hg : Grew W w) : Calls Tryd.prog 21 #[csV c, .int .i64 832, .int .u64 x] w fun e w' => e = .returned (csV (upd c 6 (x))) ∧ Grew W w' := by
  go_enter Tryd.func21, Tryd.ntmps21
  go_wp2_with (first
    | ((with_reducible refine ld_cs rfl (.tmp 3) rfl _ rfl (Blk.new2 _ _ _ _) ?_ ?_); (rotate_left 1))
    | ((with_reducible refine st_cs rfl (.tmp 6) (.tmp 61) rfl rfl (upd c 6 (x)) (Blk.new2b _ _ _ _) ?_ ?_ ?_ ?_); (rotate_left 3)))
  any_goals rfl
  exact bodyPost_ret (v := csV (upd c 6 (x))) (results_cell_row (p := 6) (ty := 24) Tryd.results21 _ _ (w.heap.size + 1) 24 (csA (upd c 6 (x))) (0, 0) _ rfl (Blk.setRow (Blk.new2b _ _ _ _)) Tryd.underlying24 rfl csInfo) rfl ⟨rfl, ((hg.alloc _).alloc _).setRow (by have := hg.size; omega) _⟩


set_option maxRecDepth 100000 in
set_option maxHeartbeats 1000000 in
theorem mac_833 (c : Nat → Int) (x : Int) (h0 : 0 ≤ x) (h1 : x < 18446744073709551616) {W w : World} (hg : Grew W w) : Calls Tryd.prog 21 #[csV c, .int .i64 833, .int .u64 x] w fun e w' => e = .returned (csV (upd c 7 (bits .andNot .u64 x 1))) ∧ Grew W w' := by
  go_enter Tryd.func21, Tryd.ntmps21
  go_wp2_with (first
    | ((with_reducible refine ld_cs rfl (.tmp 3) rfl _ rfl (Blk.new2 _ _ _ _) ?_ ?_); (rotate_left 1))
    | ((with_reducible refine st_cs rfl (.tmp 6) (.tmp 61) rfl rfl (upd c 7 (bits .andNot .u64 x 1)) (Blk.new2b _ _ _ _) ?_ ?_ ?_ ?_); (rotate_left 3)))
  any_goals rfl
  exact bodyPost_ret (v := csV (upd c 7 (bits .andNot .u64 x 1))) (results_cell_row (p := 6) (ty := 24) Tryd.results21 _ _ (w.heap.size + 1) 24 (csA (upd c 7 (bits .andNot .u64 x 1))) (0, 0) _ rfl (Blk.setRow (Blk.new2b _ _ _ _)) Tryd.underlying24 rfl csInfo) rfl ⟨rfl, ((hg.alloc _).alloc _).setRow (by have := hg.size; omega) _⟩


set_option maxRecDepth 100000 in
set_option maxHeartbeats 1000000 in
theorem mac_834 (c : Nat → Int) (x : Int) (h0 : 0 ≤ x) (h1 : x < 18446744073709551616) {W w : World} (hg : Grew W w) : Calls Tryd.prog 21 #[csV c, .int .i64 834, .int .u64 x] w fun e w' => e = .returned (csV (upd c 8 (x))) ∧ Grew W w' := by
  go_enter Tryd.func21, Tryd.ntmps21
  go_wp2_with (first
    | ((with_reducible refine ld_cs rfl (.tmp 3) rfl _ rfl (Blk.new2 _ _ _ _) ?_ ?_); (rotate_left 1))
    | ((with_reducible refine st_cs rfl (.tmp 6) (.tmp 61) rfl rfl (upd c 8 (x)) (Blk.new2b _ _ _ _) ?_ ?_ ?_ ?_); (rotate_left 3)))
  any_goals rfl
  exact bodyPost_ret (v := csV (upd c 8 (x))) (results_cell_row (p := 6) (ty := 24) Tryd.results21 _ _ (w.heap.size + 1) 24 (csA (upd c 8 (x))) (0, 0) _ rfl (Blk.setRow (Blk.new2b _ _ _ _)) Tryd.underlying24 rfl csInfo) rfl ⟨rfl, ((hg.alloc _).alloc _).setRow (by have := hg.size; omega) _⟩


set_option maxRecDepth 100000 in
set_option maxHeartbeats 1000000 in
theorem mac_835 (c : Nat → Int) (x : Int) (h0 : 0 ≤ x) (h1 : x < 18446744073709551616) {W w : World} (hg : Grew W w) : Calls Tryd.prog 21 #[csV c, .int .i64 835, .int .u64 x] w fun e w' => e = .returned (csV (upd c 9 (x))) ∧ Grew W w' := by
  go_enter Tryd.func21, Tryd.ntmps21
  go_wp2_with (first
    | ((with_reducible refine ld_cs rfl (.tmp 3) rfl _ rfl (Blk.new2 _ _ _ _) ?_ ?_); (rotate_left 1))
    | ((with_reducible refine st_cs rfl (.tmp 6) (.tmp 61) rfl rfl (upd c 9 (x)) (Blk.new2b _ _ _ _) ?_ ?_ ?_ ?_); (rotate_left 3)))
  any_goals rfl
  exact bodyPost_ret (v := csV (upd c 9 (x))) (results_cell_row (p := 6) (ty := 24) Tryd.results21 _ _ (w.heap.size + 1) 24 (csA (upd c 9 (x))) (0, 0) _ rfl (Blk.setRow (Blk.new2b _ _ _ _)) Tryd.underlying24 rfl csInfo) rfl ⟨rfl, ((hg.alloc _).alloc _).setRow (by have := hg.size; omega) _⟩


set_option maxRecDepth 100000 in
set_option maxHeartbeats 1000000 in
theorem mac_2816 (c : Nat → Int) (x : Int) (h0 : 0 ≤ x) (h1 : x < 18446744073709551616) {W w : World} (hg : Grew W w) : Calls Tryd.prog 21 #[csV c, .int .i64 2816, .int .u64 x] w fun e w' => e = .returned (csV (upd c 16 (x))) ∧ Grew W w' := by
  go_enter Tryd.func21, Tryd.ntmps21
  go_wp2_with (first
    | ((with_reducible refine ld_cs rfl (.tmp 3) rfl _ rfl (Blk.new2 _ _ _ _) ?_ ?_); (rotate_left 1))
    | ((with_reducible refine st_cs rfl (.tmp 6) (.tmp 61) rfl rfl (upd c 16 (x)) (Blk.new2b _ _ _ _) ?_ ?_ ?_ ?_); (rotate_left 3)))
  any_goals rfl
  exact bodyPost_ret (v := csV (upd c 16 (x))) (results_cell_row (p := 6) (ty := 24) Tryd.results21 _ _ (w.heap.size + 1) 24 (csA (upd c 16 (x))) (0, 0) _ rfl (Blk.setRow (Blk.new2b _ _ _ _)) Tryd.underlying24 rfl csInfo) rfl ⟨rfl, ((hg.alloc _).alloc _).setRow (by have := hg.size; omega) _⟩


set_option maxRecDepth 100000 in
set_option maxHeartbeats 1000000 in
theorem mac_other (c : Nat → Int) (x : Int) (h0 : 0 ≤ x) (h1 : x < 18446744073709551616) (n : Int) (hn : (n == 768) = false ∧ (n == 770) = false ∧ (n == 771) = false ∧ (n == 772) = false ∧ (n == 836) = false ∧ (n == 773) = false ∧ (n == 832) = false ∧ (n == 833) = false ∧ (n == 834) = false ∧ (n == 835) = false ∧ (n == 2816) = false) {W w : World} (hg : Grew W w) : Calls Tryd.prog 21 #[csV c, .int .i64 n, .int .u64 x] w fun e w' => e = .returned (csV (c)) ∧ Grew W w' := by
  obtain ⟨h768, h770, h771, h772, h836, h773, h832, h833, h834, h835, h2816⟩ := hn
  go_enter Tryd.func21, Tryd.ntmps21
  go_wp2_with (first
    | ((with_reducible refine ld_cs rfl (.tmp 3) rfl _ rfl (Blk.new2 _ _ _ _) ?_ ?_); (rotate_left 1))
    | ((with_reducible refine st_cs rfl (.tmp 6) (.tmp 61) rfl rfl (c) (Blk.new2b _ _ _ _) ?_ ?_ ?_ ?_); (rotate_left 3)))
  any_goals rfl
  exact bodyPost_ret (v := csV (c)) (results_cell_row (p := 6) (ty := 24) Tryd.results21 _ _ (w.heap.size + 1) 24 (csA (c)) (0, 0) _ rfl (Blk.setRow (Blk.new2b _ _ _ _)) Tryd.underlying24 rfl csInfo) rfl ⟨rfl, ((hg.alloc _).alloc _).setRow (by have := hg.size; omega) _⟩

def macV (c : Nat → Int) (n x : Int) : Nat → Int :=
  if n = 768 then upd c 0 (statV x) else
  if n = 770 then upd c 1 (bits .and .u64 x 46079) else
  if n = 771 then upd c 2 (bits .and .u64 x 546) else
  if n = 772 then upd c 3 (bits .and .u64 x 2730) else
  if n = 836 then upd c 4 (mrg (c 4) x 546) else
  if n = 773 then upd c 5 (bits .andNot .u64 x 2) else
  if n = 832 then upd c 6 (x) else
  if n = 833 then upd c 7 (bits .andNot .u64 x 1) else
  if n = 834 then upd c 8 (x) else
  if n = 835 then upd c 9 (x) else
  if n = 2816 then upd c 16 (x) else
  c

set_option maxRecDepth 100000 in
theorem mac_all (c : Nat → Int) (n x : Int) (h0 : 0 ≤ x) (h1 : x < 18446744073709551616) {W w : World} (hg : Grew W w) :
    Calls Tryd.prog 21 #[csV c, .int .i64 n, .int .u64 x] w fun e w' => e = .returned (csV (macV c n x)) ∧ Grew W w' := by
  unfold macV
  by_cases e768 : n = 768
  · subst e768
    simp only [Int.reduceEq, if_true, if_false]
    exact mac_768 c x h0 h1 hg
  rw [if_neg e768]
  by_cases e770 : n = 770
  · subst e770
    simp only [Int.reduceEq, if_true, if_false]
    exact mac_770 c x h0 h1 hg
  rw [if_neg e770]
  by_cases e771 : n = 771
  · subst e771
    simp only [Int.reduceEq, if_true, if_false]
    exact mac_771 c x h0 h1 hg
  rw [if_neg e771]
  by_cases e772 : n = 772
  · subst e772
    simp only [Int.reduceEq, if_true, if_false]
    exact mac_772 c x h0 h1 hg
  rw [if_neg e772]
  by_cases e836 : n = 836
  · subst e836
    simp only [Int.reduceEq, if_true, if_false]
    exact mac_836 c x h0 h1 hg
  rw [if_neg e836]
  by_cases e773 : n = 773
  · subst e773
    simp only [Int.reduceEq, if_true, if_false]
    exact mac_773 c x h0 h1 hg
  rw [if_neg e773]
  by_cases e832 : n = 832
  · subst e832
    simp only [Int.reduceEq, if_true, if_false]
    exact mac_832 c x h0 h1 hg
  rw [if_neg e832]
  by_cases e833 : n = 833
  · subst e833
    simp only [Int.reduceEq, if_true, if_false]
    exact mac_833 c x h0 h1 hg
  rw [if_neg e833]
  by_cases e834 : n = 834
  · subst e834
    simp only [Int.reduceEq, if_true, if_false]
    exact mac_834 c x h0 h1 hg
  rw [if_neg e834]
  by_cases e835 : n = 835
  · subst e835
    simp only [Int.reduceEq, if_true, if_false]
    exact mac_835 c x h0 h1 hg
  rw [if_neg e835]
  by_cases e2816 : n = 2816
  · subst e2816
    simp only [Int.reduceEq, if_true, if_false]
    exact mac_2816 c x h0 h1 hg
  rw [if_neg e2816]
  exact mac_other c x h0 h1 n ⟨by simpa using e768, by simpa using e770, by simpa using e771, by simpa using e772, by simpa using e836, by simpa using e773, by simpa using e832, by simpa using e833, by simpa using e834, by simpa using e835, by simpa using e2816⟩ hg
end Go.Proofs.YtpehfmchcjanhaaDoor
