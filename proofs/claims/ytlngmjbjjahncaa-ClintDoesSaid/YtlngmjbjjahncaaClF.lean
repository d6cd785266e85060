/-
  The document's own Load where there is nothing, and its Store, to package clint's answers.
-/
import Derived.Test.YtlngmjbjjahncaaClE
set_option linter.unusedVariables false
set_option linter.unusedSimpArgs false
namespace Go.Proofs.Ytlngmjbjjahncaa
open Go.RowKit


theorem ld_0 (T C : Int) (S : Bool) (off size : Int) (h0 : 0 ≤ off) (h1 : off < 18446744073709551616) (hz : off = 0) (h4 : size ≠ 4) {W w : World} (g : Grew W w) :
    Calls Try.prog 7 #[.agg #[.int .u64 T, .int .u64 C, .bool S], .int .u64 off, .int .i64 size] w fun e w' => e = .returned (.tuple #[.int .u64 0, .bool false]) ∧ Grew W w' := by
  subst hz
  have e4 : (size == 4) = false := by simpa using h4
  clear h4
  go_enter Try.func7, Try.ntmps7
  go_wp2_with fail
  go_returns
  exact ⟨rfl, g.alloc _⟩

theorem ld_below (T C : Int) (S : Bool) (off size : Int) (h0 : 0 ≤ off) (h1 : off < 18446744073709551616) (hz : off ≠ 0) (hb : off < 16384) {W w : World} (g : Grew W w) :
    Calls Try.prog 7 #[.agg #[.int .u64 T, .int .u64 C, .bool S], .int .u64 off, .int .i64 size] w fun e w' => e = .returned (.tuple #[.int .u64 0, .bool false]) ∧ Grew W w' := by
  have ez : (off == 0) = false := by simpa using hz
  clear hz
  go_enter Try.func7, Try.ntmps7
  go_wp2_with fail
  go_returns
  exact ⟨rfl, g.alloc _⟩

theorem ld_c_far (T C : Int) (S : Bool) (off size : Int) (h0 : 0 ≤ off) (h1 : off < 18446744073709551616) (hl : 16384 ≤ off) (hh : off < 49144) (n0 : off ≠ 16384) (n4 : off ≠ 16388) {W w : World} (g : Grew W w) :
    Calls Try.prog 7 #[.agg #[.int .u64 T, .int .u64 C, .bool S], .int .u64 off, .int .i64 size] w fun e w' => e = .returned (.tuple #[.int .u64 0, .bool false]) ∧ Grew W w' := by
  have ez : (off == 0) = false := by rw [beq_eq_false_iff_ne]; omega
  obtain ⟨a, ha⟩ : ∃ a, a = off - 16384 := ⟨_, rfl⟩
  have e1 : IntKind.u64.wrap (off - 16384) = a := by rw [wrap_u64]; omega
  have a0 : (a == 0) = false := by rw [beq_eq_false_iff_ne]; omega
  have a4 : (a == 4) = false := by rw [beq_eq_false_iff_ne]; omega
  have b0 : (a != 0) = true := by rw [bne_iff_ne]; omega
  have b4 : (a != 4) = true := by rw [bne_iff_ne]; omega
  clear ha n0 n4
  go_enter Try.func7, Try.ntmps7
  go_wp2_with fail
  go_returns
  exact ⟨rfl, g.alloc _⟩

theorem ld_t_far (T C : Int) (S : Bool) (off size : Int) (h0 : 0 ≤ off) (h1 : off < 18446744073709551616) (hl : 49144 ≤ off) (hh : True) (n0 : off ≠ 49144) (n4 : off ≠ 49148) {W w : World} (g : Grew W w) :
    Calls Try.prog 7 #[.agg #[.int .u64 T, .int .u64 C, .bool S], .int .u64 off, .int .i64 size] w fun e w' => e = .returned (.tuple #[.int .u64 0, .bool false]) ∧ Grew W w' := by
  have ez : (off == 0) = false := by rw [beq_eq_false_iff_ne]; omega
  obtain ⟨a, ha⟩ : ∃ a, a = off - 49144 := ⟨_, rfl⟩
  have e1 : IntKind.u64.wrap (off - 49144) = a := by rw [wrap_u64]; omega
  have e9 : (0 : Int) ≤ off - 49144 := by omega
  have a0 : (a == 0) = false := by rw [beq_eq_false_iff_ne]; omega
  have a4 : (a == 4) = false := by rw [beq_eq_false_iff_ne]; omega
  have b0 : (a != 0) = true := by rw [bne_iff_ne]; omega
  have b4 : (a != 4) = true := by rw [bne_iff_ne]; omega
  clear ha n0 n4
  go_enter Try.func7, Try.ntmps7
  go_wp2_with fail
  go_returns
  exact ⟨rfl, g.alloc _⟩

theorem ld_c_0 (T C : Int) (S : Bool) (off size : Int) (h0 : 0 ≤ off) (h1 : off < 18446744073709551616) (ho : off = 16384) (h4 : size ≠ 4) (h8 : size ≠ 8 ∨ 0 = 4) {W w : World} (g : Grew W w) :
    Calls Try.prog 7 #[.agg #[.int .u64 T, .int .u64 C, .bool S], .int .u64 off, .int .i64 size] w fun e w' => e = .returned (.tuple #[.int .u64 0, .bool false]) ∧ Grew W w' := by
  subst ho
  have e4 : (size == 4) = false := by simpa using h4
  have h8' : size ≠ 8 := by omega
  have e8 : (size == 8) = false := by simpa using h8'
  clear h8 h8' h4
  go_enter Try.func7, Try.ntmps7
  go_wp2_with fail
  go_returns
  exact ⟨rfl, g.alloc _⟩

theorem ld_c_4 (T C : Int) (S : Bool) (off size : Int) (h0 : 0 ≤ off) (h1 : off < 18446744073709551616) (ho : off = 16388) (h4 : size ≠ 4) (h8 : size ≠ 8 ∨ 4 = 4) {W w : World} (g : Grew W w) :
    Calls Try.prog 7 #[.agg #[.int .u64 T, .int .u64 C, .bool S], .int .u64 off, .int .i64 size] w fun e w' => e = .returned (.tuple #[.int .u64 0, .bool false]) ∧ Grew W w' := by
  subst ho
  have e4 : (size == 4) = false := by simpa using h4
  clear h8 h4
  cases e8 : (size == 8)
  all_goals
    go_enter Try.func7, Try.ntmps7
    go_wp2_with fail
    go_returns
    exact ⟨rfl, g.alloc _⟩

theorem ld_t_0 (T C : Int) (S : Bool) (off size : Int) (h0 : 0 ≤ off) (h1 : off < 18446744073709551616) (ho : off = 49144) (h4 : size ≠ 4) (h8 : size ≠ 8 ∨ 0 = 4) {W w : World} (g : Grew W w) :
    Calls Try.prog 7 #[.agg #[.int .u64 T, .int .u64 C, .bool S], .int .u64 off, .int .i64 size] w fun e w' => e = .returned (.tuple #[.int .u64 0, .bool false]) ∧ Grew W w' := by
  subst ho
  have e4 : (size == 4) = false := by simpa using h4
  have h8' : size ≠ 8 := by omega
  have e8 : (size == 8) = false := by simpa using h8'
  clear h8 h8' h4
  go_enter Try.func7, Try.ntmps7
  go_wp2_with fail
  go_returns
  exact ⟨rfl, g.alloc _⟩

theorem ld_t_4 (T C : Int) (S : Bool) (off size : Int) (h0 : 0 ≤ off) (h1 : off < 18446744073709551616) (ho : off = 49148) (h4 : size ≠ 4) (h8 : size ≠ 8 ∨ 4 = 4) {W w : World} (g : Grew W w) :
    Calls Try.prog 7 #[.agg #[.int .u64 T, .int .u64 C, .bool S], .int .u64 off, .int .i64 size] w fun e w' => e = .returned (.tuple #[.int .u64 0, .bool false]) ∧ Grew W w' := by
  subst ho
  have e4 : (size == 4) = false := by simpa using h4
  clear h8 h4
  cases e8 : (size == 8)
  all_goals
    go_enter Try.func7, Try.ntmps7
    go_wp2_with fail
    go_returns
    exact ⟨rfl, g.alloc _⟩


theorem ldn (T C : Int) (S : Bool) {off size : Int} (h0 : 0 ≤ off) (h1 : off < 18446744073709551616) (h : NoSpot off size) {W w : World} (g : Grew W w) :
    Calls Try.prog 7 #[.agg #[.int .u64 T, .int .u64 C, .bool S], .int .u64 off, .int .i64 size] w fun e w' => e = .returned (.tuple #[.int .u64 0, .bool false]) ∧ Grew W w' := by
  unfold NoSpot at h
  by_cases hz : off = 0
  · exact ld_0 T C S off size h0 h1 hz (by omega) g
  by_cases hb : off < 16384
  · exact ld_below T C S off size h0 h1 hz hb g
  by_cases ht : off < 49144
  · by_cases n0 : off = 16384
    · exact ld_c_0 T C S off size h0 h1 n0 (by omega) (by omega) g
    by_cases n4 : off = 16388
    · exact ld_c_4 T C S off size h0 h1 n4 (by omega) (by omega) g
    exact ld_c_far T C S off size h0 h1 (by omega) ht n0 n4 g
  · by_cases n0 : off = 49144
    · exact ld_t_0 T C S off size h0 h1 n0 (by omega) (by omega) g
    by_cases n4 : off = 49148
    · exact ld_t_4 T C S off size h0 h1 n4 (by omega) (by omega) g
    exact ld_t_far T C S off size h0 h1 (by omega) trivial n0 n4 g


/-! ### Store -/
theorem sd_no (T C : Int) (S : Bool) (off size x : Int) (y : Int) (hL : ∀ W w, Grew W w → Calls Try.prog 7 #[.agg #[.int .u64 T, .int .u64 C, .bool S], .int .u64 off, .int .i64 size] w fun e w' => e = .returned (.tuple #[.int .u64 y, .bool false]) ∧ Grew W w')  {W w : World} (g : Grew W w) :
    Calls Try.prog 9 #[.agg #[.int .u64 T, .int .u64 C, .bool S], .int .u64 off, .int .i64 size, .int .u64 x] w fun e w' => e = .returned (.tuple #[.agg #[.int .u64 T, .int .u64 C, .bool S], .bool false]) ∧ Grew W w' := by
  have hgs := g.size
  have HL := Lib.hid hL
  clear hL
  go_enter Try.func9, Try.ntmps9
  go_upto_region 1 with fail
  have kb : Blk ((w.alloc (.cells #[.int .u64 T, .int .u64 C, .bool S] 24)).alloc (.cells #[.int .u64 0, .int .u64 0, .bool false] 24)) w.heap.size #[.int .u64 T, .int .u64 C, .bool S] 24 := (Blk.new _ _ _ _ rfl).alloc _
  have kr : Blk ((w.alloc (.cells #[.int .u64 T, .int .u64 C, .bool S] 24)).alloc (.cells #[.int .u64 0, .int .u64 0, .bool false] 24)) (w.heap.size + 1) #[.int .u64 0, .int .u64 0, .bool false] 24 := Blk.new _ _ _ _ (by simp)
  have g0 : Grew W ((w.alloc (.cells #[.int .u64 T, .int .u64 C, .bool S] 24)).alloc (.cells #[.int .u64 0, .int .u64 0, .bool false] 24)) := (g.alloc _).alloc _
  generalize ((w.alloc (.cells #[.int .u64 T, .int .u64 C, .bool S] 24)).alloc (.cells #[.int .u64 0, .int .u64 0, .bool false] 24)) = w0 at *
  have hne : w.heap.size ≠ w.heap.size + 1 := by omega
  generalize w.heap.size = D at *
  generalize hE : D + 1 = E at *
  have b0 := kb.cell 0
  have b1 := kb.cell 1
  have b2 := kb.cell 2
  go_upto_region 3 with (go_at_call 7; refine (HL.out w0 _ (Grew.refl _)).mono ?_; rintro e w1 ⟨rfl, g1⟩)
  have kb2 := kb.grew g1
  have kr2 := kr.grew g1
  have g2 := g0.trans g1
  clear b0 b1 b2 kb kr g0 g1
  have c0 := kb2.cell 0
  have c1 := kb2.cell 1
  have c2 := kb2.cell 2
  have d0 := kr2.cell 0
  have d1 := kr2.cell 1
  have d2 := kr2.cell 2
  have f0 := kr2.free 0
  have f1 := kr2.free 1
  have f2 := kr2.free 2
  have e0 := kb2.free 0
  have e1 := kb2.free 1
  have e2 := kb2.free 2
  go_wp2_with (fail)
  have kr3 := kr2
  have g3 := g2
  have kz := (((kr3.set (o := 0) (.int .u64 T)).set (o := 1) (.int .u64 C)).set (o := 2) (.bool S))
  have gz := (((g3.setCell (b := E) (o := 0) (by omega) (.int .u64 T)).setCell (b := E) (o := 1) (by omega) (.int .u64 C)).setCell (b := E) (o := 2) (by omega) (.bool S))
  generalize (((w1.setCell ⟨E, 0, none⟩ (.int .u64 T)).setCell ⟨E, 1, none⟩ (.int .u64 C)).setCell ⟨E, 2, none⟩ (.bool S)) = wz at *
  have z0 := kz.cell 0
  have z1 := kz.cell 1
  have z2 := kz.cell 2
  exact bodyPost_ret (v := .tuple #[.agg #[.int .u64 T, .int .u64 C, .bool S], .bool false]) (by simp [results, Try.results9, go_sem, z0, z1, z2]) rfl ⟨rfl, gz⟩

theorem sd_soft (T C : Int) (S : Bool) (off size x : Int) (y : Int) (hL : ∀ W w, Grew W w → Calls Try.prog 7 #[.agg #[.int .u64 T, .int .u64 C, .bool S], .int .u64 off, .int .i64 size] w fun e w' => e = .returned (.tuple #[.int .u64 y, .bool true]) ∧ Grew W w') (ho : off = 0) (b : Bool) (hx0 : 0 ≤ x) (hb : (x % 2 == 1) = b) {W w : World} (g : Grew W w) :
    Calls Try.prog 9 #[.agg #[.int .u64 T, .int .u64 C, .bool S], .int .u64 off, .int .i64 size, .int .u64 x] w fun e w' => e = .returned (.tuple #[.agg #[.int .u64 T, .int .u64 C, .bool b], .bool true]) ∧ Grew W w' := by
  subst ho
  have hgs := g.size
  have HL := Lib.hid hL
  clear hL
  go_enter Try.func9, Try.ntmps9
  go_upto_region 1 with fail
  have kb : Blk ((w.alloc (.cells #[.int .u64 T, .int .u64 C, .bool S] 24)).alloc (.cells #[.int .u64 0, .int .u64 0, .bool false] 24)) w.heap.size #[.int .u64 T, .int .u64 C, .bool S] 24 := (Blk.new _ _ _ _ rfl).alloc _
  have kr : Blk ((w.alloc (.cells #[.int .u64 T, .int .u64 C, .bool S] 24)).alloc (.cells #[.int .u64 0, .int .u64 0, .bool false] 24)) (w.heap.size + 1) #[.int .u64 0, .int .u64 0, .bool false] 24 := Blk.new _ _ _ _ (by simp)
  have g0 : Grew W ((w.alloc (.cells #[.int .u64 T, .int .u64 C, .bool S] 24)).alloc (.cells #[.int .u64 0, .int .u64 0, .bool false] 24)) := (g.alloc _).alloc _
  generalize ((w.alloc (.cells #[.int .u64 T, .int .u64 C, .bool S] 24)).alloc (.cells #[.int .u64 0, .int .u64 0, .bool false] 24)) = w0 at *
  have hne : w.heap.size ≠ w.heap.size + 1 := by omega
  generalize w.heap.size = D at *
  generalize hE : D + 1 = E at *
  have b0 := kb.cell 0
  have b1 := kb.cell 1
  have b2 := kb.cell 2
  go_upto_region 3 with (go_at_call 7; refine (HL.out w0 _ (Grew.refl _)).mono ?_; rintro e w1 ⟨rfl, g1⟩)
  have kb2 := kb.grew g1
  have kr2 := kr.grew g1
  have g2 := g0.trans g1
  clear b0 b1 b2 kb kr g0 g1
  have c0 := kb2.cell 0
  have c1 := kb2.cell 1
  have c2 := kb2.cell 2
  have d0 := kr2.cell 0
  have d1 := kr2.cell 1
  have d2 := kr2.cell 2
  have f0 := kr2.free 0
  have f1 := kr2.free 1
  have f2 := kr2.free 2
  have e0 := kb2.free 0
  have e1 := kb2.free 1
  have e2 := kb2.free 2
  go_wp2_with (fail)
  have kr3 := kr2.other (o := 2) (c := D) (by omega) (.bool b)
  have g3 := g2.setCell (b := D) (o := 2) (by omega) (.bool b)
  have kz := (((kr3.set (o := 0) (.int .u64 T)).set (o := 1) (.int .u64 C)).set (o := 2) (.bool b))
  have gz := (((g3.setCell (b := E) (o := 0) (by omega) (.int .u64 T)).setCell (b := E) (o := 1) (by omega) (.int .u64 C)).setCell (b := E) (o := 2) (by omega) (.bool b))
  generalize ((((w1.setCell ⟨D, 2, none⟩ (.bool b)).setCell ⟨E, 0, none⟩ (.int .u64 T)).setCell ⟨E, 1, none⟩ (.int .u64 C)).setCell ⟨E, 2, none⟩ (.bool b)) = wz at *
  have z0 := kz.cell 0
  have z1 := kz.cell 1
  have z2 := kz.cell 2
  exact bodyPost_ret (v := .tuple #[.agg #[.int .u64 T, .int .u64 C, .bool b], .bool true]) (by simp [results, Try.results9, go_sem, z0, z1, z2]) rfl ⟨rfl, gz⟩

theorem sd_time (T C : Int) (S : Bool) (off size x : Int) (y : Int) (hL : ∀ W w, Grew W w → Calls Try.prog 7 #[.agg #[.int .u64 T, .int .u64 C, .bool S], .int .u64 off, .int .i64 size] w fun e w' => e = .returned (.tuple #[.int .u64 y, .bool true]) ∧ Grew W w') (hl : 49144 ≤ off) (hh : off < 18446744073709551616) (a u : Int) (ha : a = off - 49144) (hP : ∀ w, Calls Try.prog 20 #[.int .u64 T, .int .u64 a, .int .i64 size, .int .u64 x] w fun e w' => e = .returned (.int .u64 u) ∧ w = w') {W w : World} (g : Grew W w) :
    Calls Try.prog 9 #[.agg #[.int .u64 T, .int .u64 C, .bool S], .int .u64 off, .int .i64 size, .int .u64 x] w fun e w' => e = .returned (.tuple #[.agg #[.int .u64 u, .int .u64 C, .bool S], .bool true]) ∧ Grew W w' := by
  have ez : (off == 0) = false := by rw [beq_eq_false_iff_ne]; omega
  have ea : IntKind.u64.wrap (off - 49144) = a := by rw [wrap_u64]; omega
  have e9 : (0 : Int) ≤ off - 49144 := by omega
  have HP := Lib.hid hP
  clear hP
  subst ha
  have hgs := g.size
  have HL := Lib.hid hL
  clear hL
  go_enter Try.func9, Try.ntmps9
  go_upto_region 1 with fail
  have kb : Blk ((w.alloc (.cells #[.int .u64 T, .int .u64 C, .bool S] 24)).alloc (.cells #[.int .u64 0, .int .u64 0, .bool false] 24)) w.heap.size #[.int .u64 T, .int .u64 C, .bool S] 24 := (Blk.new _ _ _ _ rfl).alloc _
  have kr : Blk ((w.alloc (.cells #[.int .u64 T, .int .u64 C, .bool S] 24)).alloc (.cells #[.int .u64 0, .int .u64 0, .bool false] 24)) (w.heap.size + 1) #[.int .u64 0, .int .u64 0, .bool false] 24 := Blk.new _ _ _ _ (by simp)
  have g0 : Grew W ((w.alloc (.cells #[.int .u64 T, .int .u64 C, .bool S] 24)).alloc (.cells #[.int .u64 0, .int .u64 0, .bool false] 24)) := (g.alloc _).alloc _
  generalize ((w.alloc (.cells #[.int .u64 T, .int .u64 C, .bool S] 24)).alloc (.cells #[.int .u64 0, .int .u64 0, .bool false] 24)) = w0 at *
  have hne : w.heap.size ≠ w.heap.size + 1 := by omega
  generalize w.heap.size = D at *
  generalize hE : D + 1 = E at *
  have b0 := kb.cell 0
  have b1 := kb.cell 1
  have b2 := kb.cell 2
  go_upto_region 3 with (go_at_call 7; refine (HL.out w0 _ (Grew.refl _)).mono ?_; rintro e w1 ⟨rfl, g1⟩)
  have kb2 := kb.grew g1
  have kr2 := kr.grew g1
  have g2 := g0.trans g1
  clear b0 b1 b2 kb kr g0 g1
  have c0 := kb2.cell 0
  have c1 := kb2.cell 1
  have c2 := kb2.cell 2
  have d0 := kr2.cell 0
  have d1 := kr2.cell 1
  have d2 := kr2.cell 2
  have f0 := kr2.free 0
  have f1 := kr2.free 1
  have f2 := kr2.free 2
  have e0 := kb2.free 0
  have e1 := kb2.free 1
  have e2 := kb2.free 2
  go_wp2_with (go_at_call 20; refine (HP.out _).mono ?_; rintro e w' ⟨rfl, rfl⟩)
  have kr3 := kr2.other (o := 0) (c := D) (by omega) (.int .u64 u)
  have g3 := g2.setCell (b := D) (o := 0) (by omega) (.int .u64 u)
  have kz := (((kr3.set (o := 0) (.int .u64 u)).set (o := 1) (.int .u64 C)).set (o := 2) (.bool S))
  have gz := (((g3.setCell (b := E) (o := 0) (by omega) (.int .u64 u)).setCell (b := E) (o := 1) (by omega) (.int .u64 C)).setCell (b := E) (o := 2) (by omega) (.bool S))
  generalize ((((w1.setCell ⟨D, 0, none⟩ (.int .u64 u)).setCell ⟨E, 0, none⟩ (.int .u64 u)).setCell ⟨E, 1, none⟩ (.int .u64 C)).setCell ⟨E, 2, none⟩ (.bool S)) = wz at *
  have z0 := kz.cell 0
  have z1 := kz.cell 1
  have z2 := kz.cell 2
  exact bodyPost_ret (v := .tuple #[.agg #[.int .u64 u, .int .u64 C, .bool S], .bool true]) (by simp [results, Try.results9, go_sem, z0, z1, z2]) rfl ⟨rfl, gz⟩

theorem sd_cmp (T C : Int) (S : Bool) (off size x : Int) (y : Int) (hL : ∀ W w, Grew W w → Calls Try.prog 7 #[.agg #[.int .u64 T, .int .u64 C, .bool S], .int .u64 off, .int .i64 size] w fun e w' => e = .returned (.tuple #[.int .u64 y, .bool true]) ∧ Grew W w') (hl : 16384 ≤ off) (hh : off < 49144) (a u : Int) (ha : a = off - 16384) (hP : ∀ w, Calls Try.prog 20 #[.int .u64 C, .int .u64 a, .int .i64 size, .int .u64 x] w fun e w' => e = .returned (.int .u64 u) ∧ w = w') {W w : World} (g : Grew W w) :
    Calls Try.prog 9 #[.agg #[.int .u64 T, .int .u64 C, .bool S], .int .u64 off, .int .i64 size, .int .u64 x] w fun e w' => e = .returned (.tuple #[.agg #[.int .u64 T, .int .u64 u, .bool S], .bool true]) ∧ Grew W w' := by
  have ez : (off == 0) = false := by rw [beq_eq_false_iff_ne]; omega
  have ea : IntKind.u64.wrap (off - 16384) = a := by rw [wrap_u64]; omega
  have e9 : (0 : Int) ≤ off - 16384 := by omega
  have HP := Lib.hid hP
  clear hP
  subst ha
  have hgs := g.size
  have HL := Lib.hid hL
  clear hL
  go_enter Try.func9, Try.ntmps9
  go_upto_region 1 with fail
  have kb : Blk ((w.alloc (.cells #[.int .u64 T, .int .u64 C, .bool S] 24)).alloc (.cells #[.int .u64 0, .int .u64 0, .bool false] 24)) w.heap.size #[.int .u64 T, .int .u64 C, .bool S] 24 := (Blk.new _ _ _ _ rfl).alloc _
  have kr : Blk ((w.alloc (.cells #[.int .u64 T, .int .u64 C, .bool S] 24)).alloc (.cells #[.int .u64 0, .int .u64 0, .bool false] 24)) (w.heap.size + 1) #[.int .u64 0, .int .u64 0, .bool false] 24 := Blk.new _ _ _ _ (by simp)
  have g0 : Grew W ((w.alloc (.cells #[.int .u64 T, .int .u64 C, .bool S] 24)).alloc (.cells #[.int .u64 0, .int .u64 0, .bool false] 24)) := (g.alloc _).alloc _
  generalize ((w.alloc (.cells #[.int .u64 T, .int .u64 C, .bool S] 24)).alloc (.cells #[.int .u64 0, .int .u64 0, .bool false] 24)) = w0 at *
  have hne : w.heap.size ≠ w.heap.size + 1 := by omega
  generalize w.heap.size = D at *
  generalize hE : D + 1 = E at *
  have b0 := kb.cell 0
  have b1 := kb.cell 1
  have b2 := kb.cell 2
  go_upto_region 3 with (go_at_call 7; refine (HL.out w0 _ (Grew.refl _)).mono ?_; rintro e w1 ⟨rfl, g1⟩)
  have kb2 := kb.grew g1
  have kr2 := kr.grew g1
  have g2 := g0.trans g1
  clear b0 b1 b2 kb kr g0 g1
  have c0 := kb2.cell 0
  have c1 := kb2.cell 1
  have c2 := kb2.cell 2
  have d0 := kr2.cell 0
  have d1 := kr2.cell 1
  have d2 := kr2.cell 2
  have f0 := kr2.free 0
  have f1 := kr2.free 1
  have f2 := kr2.free 2
  have e0 := kb2.free 0
  have e1 := kb2.free 1
  have e2 := kb2.free 2
  go_wp2_with (go_at_call 20; refine (HP.out _).mono ?_; rintro e w' ⟨rfl, rfl⟩)
  have kr3 := kr2.other (o := 1) (c := D) (by omega) (.int .u64 u)
  have g3 := g2.setCell (b := D) (o := 1) (by omega) (.int .u64 u)
  have kz := (((kr3.set (o := 0) (.int .u64 T)).set (o := 1) (.int .u64 u)).set (o := 2) (.bool S))
  have gz := (((g3.setCell (b := E) (o := 0) (by omega) (.int .u64 T)).setCell (b := E) (o := 1) (by omega) (.int .u64 u)).setCell (b := E) (o := 2) (by omega) (.bool S))
  generalize ((((w1.setCell ⟨D, 1, none⟩ (.int .u64 u)).setCell ⟨E, 0, none⟩ (.int .u64 T)).setCell ⟨E, 1, none⟩ (.int .u64 u)).setCell ⟨E, 2, none⟩ (.bool S)) = wz at *
  have z0 := kz.cell 0
  have z1 := kz.cell 1
  have z2 := kz.cell 2
  exact bodyPost_ret (v := .tuple #[.agg #[.int .u64 T, .int .u64 u, .bool S], .bool true]) (by simp [results, Try.results9, go_sem, z0, z1, z2]) rfl ⟨rfl, gz⟩


theorem store_d {T C : Int} (hT : 0 ≤ T ∧ T < 18446744073709551616) (hC : 0 ≤ C ∧ C < 18446744073709551616) (S : Bool) {off size p l n : Int} (x : Int) (hx : 0 ≤ x ∧ x < 18446744073709551616) (h : Spot off size p l n) {W w : World} (g : Grew W w) :
    Calls Try.prog 9 #[.agg #[.int .u64 T, .int .u64 C, .bool S], .int .u64 off, .int .i64 size, .int .u64 x] w fun e w' => e = .returned (.tuple #[.agg #[.int .u64 (withT T (putV (regV T C S p) x l n) p), .int .u64 (withC C (putV (regV T C S p) x l n) p), .bool (withS S (putV (regV T C S p) x l n) p)], .bool true]) ∧ Grew W w' := by
  have hL := fun W w (g : Grew W w) => load_d hT hC S h g
  generalize fieldV (regV T C S p) (l + n - 1) l = y at hL
  rcases h with ⟨rfl, rfl, rfl, rfl, rfl⟩ | ⟨rfl, rfl, rfl, rfl, rfl⟩ | ⟨rfl, rfl, rfl, rfl, rfl⟩ | ⟨rfl, rfl, rfl, rfl, rfl⟩ | ⟨rfl, rfl, rfl, rfl, rfl⟩ | ⟨rfl, rfl, rfl, rfl, rfl⟩ | ⟨rfl, rfl, rfl, rfl, rfl⟩
  · refine sd_soft T C S 0 4 x y hL rfl _ hx.1 ?_ g
    have : putV (regV T C S 0) x 0 1 = x % 2 := by
      have hr : regV T C S 0 = if S = true then 1 else 0 := rfl
      rw [hr]
      unfold putV
      cases S <;> simp
    rw [this]
    rfl
  · exact sd_cmp T C S 16384 4 x y hL (by omega) (by omega) 0 _ (by omega) (fun w => put_low C x hC hx w) g
  · exact sd_cmp T C S 16388 4 x y hL (by omega) (by omega) 4 _ (by omega) (fun w => put_high C x hC hx w) g
  · exact sd_time T C S 49144 4 x y hL (by omega) (by omega) 0 _ (by omega) (fun w => put_low T x hT hx w) g
  · exact sd_time T C S 49148 4 x y hL (by omega) (by omega) 4 _ (by omega) (fun w => put_high T x hT hx w) g
  · exact sd_cmp T C S 16384 8 x y hL (by omega) (by omega) 0 _ (by omega) (fun w => put_8 C 0 x w) g
  · exact sd_time T C S 49144 8 x y hL (by omega) (by omega) 0 _ (by omega) (fun w => put_8 T 0 x w) g

end Go.Proofs.Ytlngmjbjjahncaa
