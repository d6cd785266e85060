/-
  The document's own with, Store.
-/
import Derived.Test.YtpanecflmoebiaaPlQ
set_option linter.unusedVariables false
set_option linter.unusedSimpArgs false
namespace Go.Proofs.Ytpanecflmoebiaa
open Go.RowKit

theorem and6_u64 {y : Int} (h0 : 0 ≤ y) (h1 : y < 4294967296) : bits .and .u64 y 6 = bits .and .i64 y 6 := by
  have e : bits .and .i64 y 6 = IntKind.i64.wrap (bits .and .u64 (y % 18446744073709551616) (6 % 18446744073709551616)) := i64_and_u64 y 6
  rw [e, show y % 18446744073709551616 = y by omega, show (6 : Int) % 18446744073709551616 = 6 from rfl]
  obtain ⟨Y, rfl⟩ := Int.eq_ofNat_of_zero_le h0
  rw [show (6 : Int) = ((6 : Nat) : Int) from rfl, u64_and_nat Y 6 (by omega) (by omega), six_nat, IntKind.wrap_i64]
  omega
theorem at_head {w : World} {base m c : Nat} {a : Option Addr} {xs : List Int} (h : Ints.Row w base (.slice a m c) xs) (hl : xs.length = m) (hm : 0 < m) : ∃ b, a = some ⟨b, 0, none⟩ := by
  rcases h.2 with ⟨e, h0⟩ | ⟨b', cap, cur, e, _⟩
  · omega
  · simp only [Value.slice.injEq] at e
    exact ⟨b', e.1⟩
set_option maxHeartbeats 2000000 in
theorem with_3_1 {v : Value} {xs : List Int} (hl : xs.length = 3) (x : Int) {w : World} (hb : Ints.Buf w v xs) :
    Calls Try.prog 30 #[v, .int .u64 1, .int .i64 x] w fun e w' => ∃ a c, e = .returned (.slice a 3 c) ∧ Hid (Ints.Row w' w.heap.size (.slice a 3 c) (xs.set 1 x)) ∧ Grew w w' := by
  have HB := Lib.hid hb
  obtain ⟨a, c, rfl, hc, ha⟩ := hb.shape
  have HL := Lib.hid hl
  clear hb ha hc
  rw [hl] at HB ⊢
  clear hl
  go_enter Try.func30, Try.ntmps30
  go_wp2_with (refine Ints.wpList_append_b (W := w) rfl (.tmp 8) (.tmp 9) rfl (by exact (Grew.refl w).alloc _) (Ints.Row.lit w w.heap.size (Nat.le_refl _) #[] [] rfl (Nat.zero_le _) _ rfl 0 rfl) (HB.out.grew ((Grew.refl w).alloc _)) (by rfl) (by rfl) (by have := HL.out; simp; omega) ?_; intro v1 w1 HR1 g1 q1; clear q1; obtain ⟨ao, co, eo, hco, hao⟩ := (HR1.out.buf HB.out.ok).shape; have eo2 : v1 = .slice ao 3 co := (by rw [eo]; show Value.slice ao xs.length co = _; rw [HL.out]); clear eo; subst eo2; have hR : Ints.Row w1 w.heap.size (.slice ao 3 co) xs := HR1.out; have hex : ∃ b, ao = some ⟨b, 0, none⟩ := at_head hR HL.out (by decide); obtain ⟨b, rfl⟩ := hex; have hcf := hR.at 1 (by have := HL.out; omega); have hge := hR.ge b rfl; have HR := Lib.hid hR; clear hR HR1 hco hao; generalize xs.getD 1 0 = old at hcf; obtain ⟨c0, f0⟩ := hcf)
  go_ret
  exact ⟨_, _, rfl, Lib.hid (HR.out.put 1 x), g1.setCell (by omega) _⟩
set_option maxHeartbeats 2000000 in
theorem with_3_2 {v : Value} {xs : List Int} (hl : xs.length = 3) (x : Int) {w : World} (hb : Ints.Buf w v xs) :
    Calls Try.prog 30 #[v, .int .u64 2, .int .i64 x] w fun e w' => ∃ a c, e = .returned (.slice a 3 c) ∧ Hid (Ints.Row w' w.heap.size (.slice a 3 c) (xs.set 2 x)) ∧ Grew w w' := by
  have HB := Lib.hid hb
  obtain ⟨a, c, rfl, hc, ha⟩ := hb.shape
  have HL := Lib.hid hl
  clear hb ha hc
  rw [hl] at HB ⊢
  clear hl
  go_enter Try.func30, Try.ntmps30
  go_wp2_with (refine Ints.wpList_append_b (W := w) rfl (.tmp 8) (.tmp 9) rfl (by exact (Grew.refl w).alloc _) (Ints.Row.lit w w.heap.size (Nat.le_refl _) #[] [] rfl (Nat.zero_le _) _ rfl 0 rfl) (HB.out.grew ((Grew.refl w).alloc _)) (by rfl) (by rfl) (by have := HL.out; simp; omega) ?_; intro v1 w1 HR1 g1 q1; clear q1; obtain ⟨ao, co, eo, hco, hao⟩ := (HR1.out.buf HB.out.ok).shape; have eo2 : v1 = .slice ao 3 co := (by rw [eo]; show Value.slice ao xs.length co = _; rw [HL.out]); clear eo; subst eo2; have hR : Ints.Row w1 w.heap.size (.slice ao 3 co) xs := HR1.out; have hex : ∃ b, ao = some ⟨b, 0, none⟩ := at_head hR HL.out (by decide); obtain ⟨b, rfl⟩ := hex; have hcf := hR.at 2 (by have := HL.out; omega); have hge := hR.ge b rfl; have HR := Lib.hid hR; clear hR HR1 hco hao; generalize xs.getD 2 0 = old at hcf; obtain ⟨c0, f0⟩ := hcf)
  go_ret
  exact ⟨_, _, rfl, Lib.hid (HR.out.put 2 x), g1.setCell (by omega) _⟩
set_option maxHeartbeats 2000000 in
theorem with_2_0 {v : Value} {xs : List Int} (hl : xs.length = 2) (x : Int) {w : World} (hb : Ints.Buf w v xs) :
    Calls Try.prog 30 #[v, .int .u64 0, .int .i64 x] w fun e w' => ∃ a c, e = .returned (.slice a 2 c) ∧ Hid (Ints.Row w' w.heap.size (.slice a 2 c) (xs.set 0 x)) ∧ Grew w w' := by
  have HB := Lib.hid hb
  obtain ⟨a, c, rfl, hc, ha⟩ := hb.shape
  have HL := Lib.hid hl
  clear hb ha hc
  rw [hl] at HB ⊢
  clear hl
  go_enter Try.func30, Try.ntmps30
  go_wp2_with (refine Ints.wpList_append_b (W := w) rfl (.tmp 8) (.tmp 9) rfl (by exact (Grew.refl w).alloc _) (Ints.Row.lit w w.heap.size (Nat.le_refl _) #[] [] rfl (Nat.zero_le _) _ rfl 0 rfl) (HB.out.grew ((Grew.refl w).alloc _)) (by rfl) (by rfl) (by have := HL.out; simp; omega) ?_; intro v1 w1 HR1 g1 q1; clear q1; obtain ⟨ao, co, eo, hco, hao⟩ := (HR1.out.buf HB.out.ok).shape; have eo2 : v1 = .slice ao 2 co := (by rw [eo]; show Value.slice ao xs.length co = _; rw [HL.out]); clear eo; subst eo2; have hR : Ints.Row w1 w.heap.size (.slice ao 2 co) xs := HR1.out; have hex : ∃ b, ao = some ⟨b, 0, none⟩ := at_head hR HL.out (by decide); obtain ⟨b, rfl⟩ := hex; have hcf := hR.at 0 (by have := HL.out; omega); have hge := hR.ge b rfl; have HR := Lib.hid hR; clear hR HR1 hco hao; generalize xs.getD 0 0 = old at hcf; obtain ⟨c0, f0⟩ := hcf)
  go_ret
  exact ⟨_, _, rfl, Lib.hid (HR.out.put 0 x), g1.setCell (by omega) _⟩
set_option maxHeartbeats 2000000 in
theorem with_2_1 {v : Value} {xs : List Int} (hl : xs.length = 2) (x : Int) {w : World} (hb : Ints.Buf w v xs) :
    Calls Try.prog 30 #[v, .int .u64 1, .int .i64 x] w fun e w' => ∃ a c, e = .returned (.slice a 2 c) ∧ Hid (Ints.Row w' w.heap.size (.slice a 2 c) (xs.set 1 x)) ∧ Grew w w' := by
  have HB := Lib.hid hb
  obtain ⟨a, c, rfl, hc, ha⟩ := hb.shape
  have HL := Lib.hid hl
  clear hb ha hc
  rw [hl] at HB ⊢
  clear hl
  go_enter Try.func30, Try.ntmps30
  go_wp2_with (refine Ints.wpList_append_b (W := w) rfl (.tmp 8) (.tmp 9) rfl (by exact (Grew.refl w).alloc _) (Ints.Row.lit w w.heap.size (Nat.le_refl _) #[] [] rfl (Nat.zero_le _) _ rfl 0 rfl) (HB.out.grew ((Grew.refl w).alloc _)) (by rfl) (by rfl) (by have := HL.out; simp; omega) ?_; intro v1 w1 HR1 g1 q1; clear q1; obtain ⟨ao, co, eo, hco, hao⟩ := (HR1.out.buf HB.out.ok).shape; have eo2 : v1 = .slice ao 2 co := (by rw [eo]; show Value.slice ao xs.length co = _; rw [HL.out]); clear eo; subst eo2; have hR : Ints.Row w1 w.heap.size (.slice ao 2 co) xs := HR1.out; have hex : ∃ b, ao = some ⟨b, 0, none⟩ := at_head hR HL.out (by decide); obtain ⟨b, rfl⟩ := hex; have hcf := hR.at 1 (by have := HL.out; omega); have hge := hR.ge b rfl; have HR := Lib.hid hR; clear hR HR1 hco hao; generalize xs.getD 1 0 = old at hcf; obtain ⟨c0, f0⟩ := hcf)
  go_ret
  exact ⟨_, _, rfl, Lib.hid (HR.out.put 1 x), g1.setCell (by omega) _⟩
set_option maxHeartbeats 2000000 in
theorem refStore_bad {v : Value} {s : PS} (off size x : Int) (hx0 : 0 ≤ x) (hx1 : x < 18446744073709551616) (hbad : Bad s off size) {W w : World} (hb : Pl w v s) (g : Grew W w) :
    Calls Try.prog 14 #[v, .int .u64 off, .int .i64 size, .int .u64 x] w fun e w' => ∃ v', e = .returned (.tuple #[v', .bool false]) ∧ Hid (Pl w' v' s) ∧ Grew W w' := by
  have hC := fun (w1 : World) (g1 : Grew w w1) => refCheck_c (Grew.refl w1) (hb.grew g1)
  have HC := Lib.hid hC
  have hgs := g.size
  clear hC
  have hbad' : chk s = false ∨ (chk s = true ∧ (size != 4) = true) ∨ (chk s = true ∧ (size != 4) = false ∧ regAt off = 0) := by
    cases hc : chk s
    · exact .inl rfl
    · rcases hbad with h | h | h
      · rw [hc] at h; cases h
      · exact .inr (.inl ⟨rfl, by simpa using h⟩)
      · by_cases h4 : size = 4
        · exact .inr (.inr ⟨rfl, by simp [h4], h⟩)
        · exact .inr (.inl ⟨rfl, by simpa using h4⟩)
  clear hbad
  have HV := Lib.hid hb
  obtain ⟨vP, vE, vT, rfl, h1, h2, h3⟩ := hb.shape
  obtain ⟨aP, cP, rfl, _, _⟩ := h1.shape
  obtain ⟨aE, cE, rfl, _, _⟩ := h2.shape
  obtain ⟨aT, cT, rfl, _, _⟩ := h3.shape
  clear h1 h2 h3 hb
  rcases hbad' with h | ⟨h, h4⟩ | ⟨h, h4, hr⟩
  · skip
    rw [h] at HC
    clear h
    go_enter Try.func14, Try.ntmps14
    go_upto_region 1 with fail
    have k0 : Blk ((w.alloc (.cells #[.slice aP s.pr.length cP, .int .i64 s.n, .int .i64 s.k, .slice aE s.en.length cE, .slice aT s.th.length cT] 24)).alloc (.cells #[.slice none 0 0, .int .i64 0, .int .i64 0, .slice none 0 0, .slice none 0 0] 24)) w.heap.size #[.slice aP s.pr.length cP, .int .i64 s.n, .int .i64 s.k, .slice aE s.en.length cE, .slice aT s.th.length cT] 24 := (Blk.new _ _ _ _ rfl).alloc _
    have r0 : Blk ((w.alloc (.cells #[.slice aP s.pr.length cP, .int .i64 s.n, .int .i64 s.k, .slice aE s.en.length cE, .slice aT s.th.length cT] 24)).alloc (.cells #[.slice none 0 0, .int .i64 0, .int .i64 0, .slice none 0 0, .slice none 0 0] 24)) (w.heap.size + 1) #[.slice none 0 0, .int .i64 0, .int .i64 0, .slice none 0 0, .slice none 0 0] 24 := Blk.new _ _ _ _ (by simp)
    have g0 : Grew w ((w.alloc (.cells #[.slice aP s.pr.length cP, .int .i64 s.n, .int .i64 s.k, .slice aE s.en.length cE, .slice aT s.th.length cT] 24)).alloc (.cells #[.slice none 0 0, .int .i64 0, .int .i64 0, .slice none 0 0, .slice none 0 0] 24)) := ((Grew.refl w).alloc _).alloc _
    have s0 := r0.lt
    generalize ((w.alloc (.cells #[.slice aP s.pr.length cP, .int .i64 s.n, .int .i64 s.k, .slice aE s.en.length cE, .slice aT s.th.length cT] 24)).alloc (.cells #[.slice none 0 0, .int .i64 0, .int .i64 0, .slice none 0 0, .slice none 0 0] 24)) = w0 at *
    have y0 := k0.cell 0
    have y1 := k0.cell 1
    have y2 := k0.cell 2
    have y3 := k0.cell 3
    have y4 := k0.cell 4
    go_wp2_with fail
    refine (HC.out _ g0).mono ?_
    rintro e w1 ⟨rfl, g1⟩
    clear y0 y1 y2 y3 y4
    have k1 := k0.grew g1
    have r1 := r0.grew g1
    have G1 := g0.trans g1
    clear k0 r0 g0 g1 HC
    have y0 := k1.cell 0
    have y1 := k1.cell 1
    have y2 := k1.cell 2
    have y3 := k1.cell 3
    have y4 := k1.cell 4
    have x0 := r1.cell 0
    have x1 := r1.cell 1
    have x2 := r1.cell 2
    have x3 := r1.cell 3
    have x4 := r1.cell 4
    have f0 := r1.free 0
    have f1 := r1.free 1
    have f2 := r1.free 2
    have f3 := r1.free 3
    have f4 := r1.free 4
    go_wp2_with fail
    clear x0 x1 x2 x3 x4 f0 f1 f2 f3 f4 y0 y1 y2 y3 y4
    have ky := (((((r1.set (o := 0) (.slice aP s.pr.length cP)).set (o := 1) (.int .i64 s.n)).set (o := 2) (.int .i64 s.k)).set (o := 3) (.slice aE s.en.length cE)).set (o := 4) (.slice aT s.th.length cT))
    have gy := (((((G1.setCell (b := (w.heap.size + 1)) (o := 0) (by omega) (.slice aP s.pr.length cP)).setCell (b := (w.heap.size + 1)) (o := 1) (by omega) (.int .i64 s.n)).setCell (b := (w.heap.size + 1)) (o := 2) (by omega) (.int .i64 s.k)).setCell (b := (w.heap.size + 1)) (o := 3) (by omega) (.slice aE s.en.length cE)).setCell (b := (w.heap.size + 1)) (o := 4) (by omega) (.slice aT s.th.length cT))
    generalize (((((w1.setCell ⟨(w.heap.size + 1), 0, none⟩ (.slice aP s.pr.length cP)).setCell ⟨(w.heap.size + 1), 1, none⟩ (.int .i64 s.n)).setCell ⟨(w.heap.size + 1), 2, none⟩ (.int .i64 s.k)).setCell ⟨(w.heap.size + 1), 3, none⟩ (.slice aE s.en.length cE)).setCell ⟨(w.heap.size + 1), 4, none⟩ (.slice aT s.th.length cT)) = wy at *
    have z0 := ky.cell 0
    have z1 := ky.cell 1
    have z2 := ky.cell 2
    have z3 := ky.cell 3
    have z4 := ky.cell 4
    exact bodyPost_ret (v := .tuple #[.agg #[.slice aP s.pr.length cP, .int .i64 s.n, .int .i64 s.k, .slice aE s.en.length cE, .slice aT s.th.length cT], .bool false]) (by simp [results, Try.results14, go_sem, z0, z1, z2, z3, z4]) rfl ⟨_, rfl, Lib.hid (HV.out.grew gy), g.trans gy⟩
  · skip
    rw [h] at HC
    clear h
    go_enter Try.func14, Try.ntmps14
    go_upto_region 1 with fail
    have k0 : Blk ((w.alloc (.cells #[.slice aP s.pr.length cP, .int .i64 s.n, .int .i64 s.k, .slice aE s.en.length cE, .slice aT s.th.length cT] 24)).alloc (.cells #[.slice none 0 0, .int .i64 0, .int .i64 0, .slice none 0 0, .slice none 0 0] 24)) w.heap.size #[.slice aP s.pr.length cP, .int .i64 s.n, .int .i64 s.k, .slice aE s.en.length cE, .slice aT s.th.length cT] 24 := (Blk.new _ _ _ _ rfl).alloc _
    have r0 : Blk ((w.alloc (.cells #[.slice aP s.pr.length cP, .int .i64 s.n, .int .i64 s.k, .slice aE s.en.length cE, .slice aT s.th.length cT] 24)).alloc (.cells #[.slice none 0 0, .int .i64 0, .int .i64 0, .slice none 0 0, .slice none 0 0] 24)) (w.heap.size + 1) #[.slice none 0 0, .int .i64 0, .int .i64 0, .slice none 0 0, .slice none 0 0] 24 := Blk.new _ _ _ _ (by simp)
    have g0 : Grew w ((w.alloc (.cells #[.slice aP s.pr.length cP, .int .i64 s.n, .int .i64 s.k, .slice aE s.en.length cE, .slice aT s.th.length cT] 24)).alloc (.cells #[.slice none 0 0, .int .i64 0, .int .i64 0, .slice none 0 0, .slice none 0 0] 24)) := ((Grew.refl w).alloc _).alloc _
    have s0 := r0.lt
    generalize ((w.alloc (.cells #[.slice aP s.pr.length cP, .int .i64 s.n, .int .i64 s.k, .slice aE s.en.length cE, .slice aT s.th.length cT] 24)).alloc (.cells #[.slice none 0 0, .int .i64 0, .int .i64 0, .slice none 0 0, .slice none 0 0] 24)) = w0 at *
    have y0 := k0.cell 0
    have y1 := k0.cell 1
    have y2 := k0.cell 2
    have y3 := k0.cell 3
    have y4 := k0.cell 4
    go_wp2_with fail
    refine (HC.out _ g0).mono ?_
    rintro e w1 ⟨rfl, g1⟩
    clear y0 y1 y2 y3 y4
    have k1 := k0.grew g1
    have r1 := r0.grew g1
    have G1 := g0.trans g1
    clear k0 r0 g0 g1 HC
    have y0 := k1.cell 0
    have y1 := k1.cell 1
    have y2 := k1.cell 2
    have y3 := k1.cell 3
    have y4 := k1.cell 4
    have x0 := r1.cell 0
    have x1 := r1.cell 1
    have x2 := r1.cell 2
    have x3 := r1.cell 3
    have x4 := r1.cell 4
    have f0 := r1.free 0
    have f1 := r1.free 1
    have f2 := r1.free 2
    have f3 := r1.free 3
    have f4 := r1.free 4
    go_wp2_with fail
    clear x0 x1 x2 x3 x4 f0 f1 f2 f3 f4 y0 y1 y2 y3 y4
    have ky := (((((r1.set (o := 0) (.slice aP s.pr.length cP)).set (o := 1) (.int .i64 s.n)).set (o := 2) (.int .i64 s.k)).set (o := 3) (.slice aE s.en.length cE)).set (o := 4) (.slice aT s.th.length cT))
    have gy := (((((G1.setCell (b := (w.heap.size + 1)) (o := 0) (by omega) (.slice aP s.pr.length cP)).setCell (b := (w.heap.size + 1)) (o := 1) (by omega) (.int .i64 s.n)).setCell (b := (w.heap.size + 1)) (o := 2) (by omega) (.int .i64 s.k)).setCell (b := (w.heap.size + 1)) (o := 3) (by omega) (.slice aE s.en.length cE)).setCell (b := (w.heap.size + 1)) (o := 4) (by omega) (.slice aT s.th.length cT))
    generalize (((((w1.setCell ⟨(w.heap.size + 1), 0, none⟩ (.slice aP s.pr.length cP)).setCell ⟨(w.heap.size + 1), 1, none⟩ (.int .i64 s.n)).setCell ⟨(w.heap.size + 1), 2, none⟩ (.int .i64 s.k)).setCell ⟨(w.heap.size + 1), 3, none⟩ (.slice aE s.en.length cE)).setCell ⟨(w.heap.size + 1), 4, none⟩ (.slice aT s.th.length cT)) = wy at *
    have z0 := ky.cell 0
    have z1 := ky.cell 1
    have z2 := ky.cell 2
    have z3 := ky.cell 3
    have z4 := ky.cell 4
    exact bodyPost_ret (v := .tuple #[.agg #[.slice aP s.pr.length cP, .int .i64 s.n, .int .i64 s.k, .slice aE s.en.length cE, .slice aT s.th.length cT], .bool false]) (by simp [results, Try.results14, go_sem, z0, z1, z2, z3, z4]) rfl ⟨_, rfl, Lib.hid (HV.out.grew gy), g.trans gy⟩
  · skip
    rw [h] at HC
    clear h
    obtain ⟨n1, n2, n3, n4, n5, n6, n7, n8, n9⟩ := no_at hr
    clear hr
    have m1 : (off == 4) = false := by simpa using n1
    have m2 : (off == 8) = false := by simpa using n2
    have m3 : (off == 4096) = false := by simpa using n3
    have m4 : (off == 8192) = false := by simpa using n4
    have m5 : (off == 8320) = false := by simpa using n5
    have m6 : (off == 2097152) = false := by simpa using n6
    have m7 : (off == 2101248) = false := by simpa using n7
    have m8 : (off == 2097156) = false := by simpa using n8
    have m9 : (off == 2101252) = false := by simpa using n9
    clear n1 n2 n3 n4 n5 n6 n7 n8 n9
    obtain rfl : size = 4 := by simpa using h4
    clear h4
    go_enter Try.func14, Try.ntmps14
    go_upto_region 1 with fail
    have k0 : Blk ((w.alloc (.cells #[.slice aP s.pr.length cP, .int .i64 s.n, .int .i64 s.k, .slice aE s.en.length cE, .slice aT s.th.length cT] 24)).alloc (.cells #[.slice none 0 0, .int .i64 0, .int .i64 0, .slice none 0 0, .slice none 0 0] 24)) w.heap.size #[.slice aP s.pr.length cP, .int .i64 s.n, .int .i64 s.k, .slice aE s.en.length cE, .slice aT s.th.length cT] 24 := (Blk.new _ _ _ _ rfl).alloc _
    have r0 : Blk ((w.alloc (.cells #[.slice aP s.pr.length cP, .int .i64 s.n, .int .i64 s.k, .slice aE s.en.length cE, .slice aT s.th.length cT] 24)).alloc (.cells #[.slice none 0 0, .int .i64 0, .int .i64 0, .slice none 0 0, .slice none 0 0] 24)) (w.heap.size + 1) #[.slice none 0 0, .int .i64 0, .int .i64 0, .slice none 0 0, .slice none 0 0] 24 := Blk.new _ _ _ _ (by simp)
    have g0 : Grew w ((w.alloc (.cells #[.slice aP s.pr.length cP, .int .i64 s.n, .int .i64 s.k, .slice aE s.en.length cE, .slice aT s.th.length cT] 24)).alloc (.cells #[.slice none 0 0, .int .i64 0, .int .i64 0, .slice none 0 0, .slice none 0 0] 24)) := ((Grew.refl w).alloc _).alloc _
    have s0 := r0.lt
    generalize ((w.alloc (.cells #[.slice aP s.pr.length cP, .int .i64 s.n, .int .i64 s.k, .slice aE s.en.length cE, .slice aT s.th.length cT] 24)).alloc (.cells #[.slice none 0 0, .int .i64 0, .int .i64 0, .slice none 0 0, .slice none 0 0] 24)) = w0 at *
    have y0 := k0.cell 0
    have y1 := k0.cell 1
    have y2 := k0.cell 2
    have y3 := k0.cell 3
    have y4 := k0.cell 4
    go_wp2_with fail
    refine (HC.out _ g0).mono ?_
    rintro e w1 ⟨rfl, g1⟩
    clear y0 y1 y2 y3 y4
    have k1 := k0.grew g1
    have r1 := r0.grew g1
    have G1 := g0.trans g1
    clear k0 r0 g0 g1 HC
    have y0 := k1.cell 0
    have y1 := k1.cell 1
    have y2 := k1.cell 2
    have y3 := k1.cell 3
    have y4 := k1.cell 4
    have x0 := r1.cell 0
    have x1 := r1.cell 1
    have x2 := r1.cell 2
    have x3 := r1.cell 3
    have x4 := r1.cell 4
    have f0 := r1.free 0
    have f1 := r1.free 1
    have f2 := r1.free 2
    have f3 := r1.free 3
    have f4 := r1.free 4
    go_wp2_with fail
    clear x0 x1 x2 x3 x4 f0 f1 f2 f3 f4 y0 y1 y2 y3 y4
    have ky := (((((r1.set (o := 0) (.slice aP s.pr.length cP)).set (o := 1) (.int .i64 s.n)).set (o := 2) (.int .i64 s.k)).set (o := 3) (.slice aE s.en.length cE)).set (o := 4) (.slice aT s.th.length cT))
    have gy := (((((G1.setCell (b := (w.heap.size + 1)) (o := 0) (by omega) (.slice aP s.pr.length cP)).setCell (b := (w.heap.size + 1)) (o := 1) (by omega) (.int .i64 s.n)).setCell (b := (w.heap.size + 1)) (o := 2) (by omega) (.int .i64 s.k)).setCell (b := (w.heap.size + 1)) (o := 3) (by omega) (.slice aE s.en.length cE)).setCell (b := (w.heap.size + 1)) (o := 4) (by omega) (.slice aT s.th.length cT))
    generalize (((((w1.setCell ⟨(w.heap.size + 1), 0, none⟩ (.slice aP s.pr.length cP)).setCell ⟨(w.heap.size + 1), 1, none⟩ (.int .i64 s.n)).setCell ⟨(w.heap.size + 1), 2, none⟩ (.int .i64 s.k)).setCell ⟨(w.heap.size + 1), 3, none⟩ (.slice aE s.en.length cE)).setCell ⟨(w.heap.size + 1), 4, none⟩ (.slice aT s.th.length cT)) = wy at *
    have z0 := ky.cell 0
    have z1 := ky.cell 1
    have z2 := ky.cell 2
    have z3 := ky.cell 3
    have z4 := ky.cell 4
    exact bodyPost_ret (v := .tuple #[.agg #[.slice aP s.pr.length cP, .int .i64 s.n, .int .i64 s.k, .slice aE s.en.length cE, .slice aT s.th.length cT], .bool false]) (by simp [results, Try.results14, go_sem, z0, z1, z2, z3, z4]) rfl ⟨_, rfl, Lib.hid (HV.out.grew gy), g.trans gy⟩
set_option maxHeartbeats 2000000 in
theorem refStore_1 {v : Value} {s : VS} (hs : s.Ok) (x : Int) (hx0 : 0 ≤ x) (hx1 : x < 18446744073709551616) {W w : World} (hb : Pl w v s.ps) (g : Grew W w) :
    Calls Try.prog 14 #[v, .int .u64 4, .int .i64 4, .int .u64 x] w fun e w' => ∃ v', e = .returned (.tuple #[v', .bool true]) ∧ Hid (Pl w' v' (s.store 1 (x % 4294967296)).ps) ∧ Grew W w' := by
  have hC := fun (w1 : World) (g1 : Grew w w1) => refCheck_c (Grew.refl w1) (hb.grew g1)
  rw [chk_mk hs] at hC
  have HC := Lib.hid hC
  have hgs := g.size
  have hok := fun r y => (hs.store r y).rows
  have HOK := Lib.hid hok
  have HS := Lib.hid hs
  have h60 := and6_u64 (y := x % 4294967296) (by omega) (by omega)
  have h61 := (and_six (x % 4294967296)).bd
  clear hC hok hs
  have hi := HOK.out 1 (x % 4294967296)
  clear HOK
  have hst : s.store 1 (x % 4294967296) = { s with p1 := x % 8 } := by
    have e8 : x % 4294967296 % 8 = x % 8 := by omega
    simp [VS.store, e8]
  rw [hst] at hi ⊢
  clear hst
  have HI := Lib.hid hi
  clear hi
  have HV := Lib.hid hb
  obtain ⟨vP, vE, vT, rfl, h1, h2, h3⟩ := hb.shape
  obtain ⟨bP, oP, cP, rfl, lP, hP⟩ := h1.at (by simp)
  obtain ⟨bE, oE, cE, rfl, lE, hE⟩ := h2.at (by simp)
  obtain ⟨bT, oT, cT, rfl, lT, hT⟩ := h3.at (by simp)
  have HB1 := Lib.hid h1
  have HB2 := Lib.hid h2
  have HB3 := Lib.hid h3
  clear h1 h2 h3 hb
  obtain ⟨p1, p2, n, k, e0, t0, e1, t1⟩ := s
  have cP0 : w.cell? ⟨bP, oP, none⟩ = some (.int .i64 0) := hP 0 (by simp)
  have cP1 : w.cell? ⟨bP, oP + 1, none⟩ = some (.int .i64 p1) := hP 1 (by simp)
  have cP2 : w.cell? ⟨bP, oP + 2, none⟩ = some (.int .i64 p2) := hP 2 (by simp)
  have cE0 : w.cell? ⟨bE, oE, none⟩ = some (.int .i64 e0) := hE 0 (by simp)
  have cE1 : w.cell? ⟨bE, oE + 1, none⟩ = some (.int .i64 e1) := hE 1 (by simp)
  have cT0 : w.cell? ⟨bT, oT, none⟩ = some (.int .i64 t0) := hT 0 (by simp)
  have cT1 : w.cell? ⟨bT, oT + 1, none⟩ = some (.int .i64 t1) := hT 1 (by simp)
  clear hP hE hT
  dsimp only [VS.ps] at HV HB1 HB2 HB3 ⊢
  simp only [List.length_cons, List.length_nil, Nat.zero_add, Nat.reduceAdd] at HV HB1 HB2 HB3 ⊢
  have hW := fun (w1 : World) (g1 : Grew w w1) => with_3_1 (xs := [0, p1, p2]) rfl (x % 8) (HB1.out.grew g1)
  have HW := Lib.hid hW
  clear hW
  clear h60 h61
  go_enter Try.func14, Try.ntmps14
  go_upto_region 1 with fail
  have k0 : Blk ((w.alloc (.cells #[.slice (some ⟨bP, oP, none⟩) 3 cP, .int .i64 n, .int .i64 k, .slice (some ⟨bE, oE, none⟩) 2 cE, .slice (some ⟨bT, oT, none⟩) 2 cT] 24)).alloc (.cells #[.slice none 0 0, .int .i64 0, .int .i64 0, .slice none 0 0, .slice none 0 0] 24)) w.heap.size #[.slice (some ⟨bP, oP, none⟩) 3 cP, .int .i64 n, .int .i64 k, .slice (some ⟨bE, oE, none⟩) 2 cE, .slice (some ⟨bT, oT, none⟩) 2 cT] 24 := (Blk.new _ _ _ _ rfl).alloc _
  have r0 : Blk ((w.alloc (.cells #[.slice (some ⟨bP, oP, none⟩) 3 cP, .int .i64 n, .int .i64 k, .slice (some ⟨bE, oE, none⟩) 2 cE, .slice (some ⟨bT, oT, none⟩) 2 cT] 24)).alloc (.cells #[.slice none 0 0, .int .i64 0, .int .i64 0, .slice none 0 0, .slice none 0 0] 24)) (w.heap.size + 1) #[.slice none 0 0, .int .i64 0, .int .i64 0, .slice none 0 0, .slice none 0 0] 24 := Blk.new _ _ _ _ (by simp)
  have g0 : Grew w ((w.alloc (.cells #[.slice (some ⟨bP, oP, none⟩) 3 cP, .int .i64 n, .int .i64 k, .slice (some ⟨bE, oE, none⟩) 2 cE, .slice (some ⟨bT, oT, none⟩) 2 cT] 24)).alloc (.cells #[.slice none 0 0, .int .i64 0, .int .i64 0, .slice none 0 0, .slice none 0 0] 24)) := ((Grew.refl w).alloc _).alloc _
  have s0 := r0.lt
  generalize ((w.alloc (.cells #[.slice (some ⟨bP, oP, none⟩) 3 cP, .int .i64 n, .int .i64 k, .slice (some ⟨bE, oE, none⟩) 2 cE, .slice (some ⟨bT, oT, none⟩) 2 cT] 24)).alloc (.cells #[.slice none 0 0, .int .i64 0, .int .i64 0, .slice none 0 0, .slice none 0 0] 24)) = w0 at *
  have y0 := k0.cell 0
  have y1 := k0.cell 1
  have y2 := k0.cell 2
  have y3 := k0.cell 3
  have y4 := k0.cell 4
  go_wp2_with fail
  refine (HC.out _ g0).mono ?_
  rintro e w1 ⟨rfl, g1⟩
  clear y0 y1 y2 y3 y4
  have k1 := k0.grew g1
  have r1 := r0.grew g1
  have G1 := g0.trans g1
  clear k0 r0 g0 g1 HC
  have y := k1.cell 0
  have u := k1.free 0
  go_wp2_with fail
  refine (HW.out _ G1).mono ?_
  rintro e w2 ⟨aN, cN, rfl, HR, g2⟩
  clear y
  have k2 := k1.grew g2
  have r2 := r1.grew g2
  have G2 := G1.trans g2
  have hsz := r1.lt
  clear k1 r1 G1 g2 HW u
  have y := k2.cell 0
  have u := k2.free 0
  go_upto_region 20 with fail
  have k3 := k2.set (o := 0) (.slice aN 3 cN)
  have r3 := r2.other (show w.heap.size + 1 ≠ w.heap.size by omega) (o := 0) (.slice aN 3 cN)
  have G3 := G2.setCell (b := w.heap.size) (o := 0) (Nat.le_refl _) (.slice aN 3 cN)
  have HR3 := Lib.hid (HR.out.set (c := w.heap.size) (o := 0) (by omega) (.slice aN 3 cN))
  clear y u k2 r2 G2 HR
  generalize w2.setCell ⟨w.heap.size, 0, none⟩ (.slice aN 3 cN) = w3 at *
  have y0 := k3.cell 0
  have y1 := k3.cell 1
  have y2 := k3.cell 2
  have y3 := k3.cell 3
  have y4 := k3.cell 4
  have x0 := r3.cell 0
  have x1 := r3.cell 1
  have x2 := r3.cell 2
  have x3 := r3.cell 3
  have x4 := r3.cell 4
  have f0 := r3.free 0
  have f1 := r3.free 1
  have f2 := r3.free 2
  have f3 := r3.free 3
  have f4 := r3.free 4
  go_wp2_with fail
  clear x0 x1 x2 x3 x4 f0 f1 f2 f3 f4 y0 y1 y2 y3 y4
  have HR4 := Lib.hid ((((((HR3.out.set (c := w.heap.size + 1) (o := 0) (by omega) (.slice aN 3 cN)).set (c := w.heap.size + 1) (o := 1) (by omega) (.int .i64 n)).set (c := w.heap.size + 1) (o := 2) (by omega) (.int .i64 k)).set (c := w.heap.size + 1) (o := 3) (by omega) (.slice (some ⟨bE, oE, none⟩) 2 cE)).set (c := w.heap.size + 1) (o := 4) (by omega) (.slice (some ⟨bT, oT, none⟩) 2 cT)))
  have ky := (((((r3.set (o := 0) (.slice aN 3 cN)).set (o := 1) (.int .i64 n)).set (o := 2) (.int .i64 k)).set (o := 3) (.slice (some ⟨bE, oE, none⟩) 2 cE)).set (o := 4) (.slice (some ⟨bT, oT, none⟩) 2 cT))
  have gy := (((((G3.setCell (b := (w.heap.size + 1)) (o := 0) (by omega) (.slice aN 3 cN)).setCell (b := (w.heap.size + 1)) (o := 1) (by omega) (.int .i64 n)).setCell (b := (w.heap.size + 1)) (o := 2) (by omega) (.int .i64 k)).setCell (b := (w.heap.size + 1)) (o := 3) (by omega) (.slice (some ⟨bE, oE, none⟩) 2 cE)).setCell (b := (w.heap.size + 1)) (o := 4) (by omega) (.slice (some ⟨bT, oT, none⟩) 2 cT))
  generalize (((((w3.setCell ⟨(w.heap.size + 1), 0, none⟩ (.slice aN 3 cN)).setCell ⟨(w.heap.size + 1), 1, none⟩ (.int .i64 n)).setCell ⟨(w.heap.size + 1), 2, none⟩ (.int .i64 k)).setCell ⟨(w.heap.size + 1), 3, none⟩ (.slice (some ⟨bE, oE, none⟩) 2 cE)).setCell ⟨(w.heap.size + 1), 4, none⟩ (.slice (some ⟨bT, oT, none⟩) 2 cT)) = wy at *
  have z0 := ky.cell 0
  have z1 := ky.cell 1
  have z2 := ky.cell 2
  have z3 := ky.cell 3
  have z4 := ky.cell 4
  exact bodyPost_ret (v := .tuple #[.agg #[.slice aN 3 cN, .int .i64 n, .int .i64 k, .slice (some ⟨bE, oE, none⟩) 2 cE, .slice (some ⟨bT, oT, none⟩) 2 cT], .bool true]) (by simp [results, Try.results14, go_sem, z0, z1, z2, z3, z4]) rfl ⟨_, rfl, Lib.hid ⟨⟨_, _, _, rfl, HR4.out.buf HI.out.1, HB2.out.grew gy, HB3.out.grew gy⟩, HI.out.2.2.2.1, HI.out.2.2.2.2⟩, g.trans gy⟩
set_option maxHeartbeats 2000000 in
theorem refStore_2 {v : Value} {s : VS} (hs : s.Ok) (x : Int) (hx0 : 0 ≤ x) (hx1 : x < 18446744073709551616) {W w : World} (hb : Pl w v s.ps) (g : Grew W w) :
    Calls Try.prog 14 #[v, .int .u64 8, .int .i64 4, .int .u64 x] w fun e w' => ∃ v', e = .returned (.tuple #[v', .bool true]) ∧ Hid (Pl w' v' (s.store 2 (x % 4294967296)).ps) ∧ Grew W w' := by
  have hC := fun (w1 : World) (g1 : Grew w w1) => refCheck_c (Grew.refl w1) (hb.grew g1)
  rw [chk_mk hs] at hC
  have HC := Lib.hid hC
  have hgs := g.size
  have hok := fun r y => (hs.store r y).rows
  have HOK := Lib.hid hok
  have HS := Lib.hid hs
  have h60 := and6_u64 (y := x % 4294967296) (by omega) (by omega)
  have h61 := (and_six (x % 4294967296)).bd
  clear hC hok hs
  have hi := HOK.out 2 (x % 4294967296)
  clear HOK
  have hst : s.store 2 (x % 4294967296) = { s with p2 := x % 8 } := by
    have e8 : x % 4294967296 % 8 = x % 8 := by omega
    simp [VS.store, e8]
  rw [hst] at hi ⊢
  clear hst
  have HI := Lib.hid hi
  clear hi
  have HV := Lib.hid hb
  obtain ⟨vP, vE, vT, rfl, h1, h2, h3⟩ := hb.shape
  obtain ⟨bP, oP, cP, rfl, lP, hP⟩ := h1.at (by simp)
  obtain ⟨bE, oE, cE, rfl, lE, hE⟩ := h2.at (by simp)
  obtain ⟨bT, oT, cT, rfl, lT, hT⟩ := h3.at (by simp)
  have HB1 := Lib.hid h1
  have HB2 := Lib.hid h2
  have HB3 := Lib.hid h3
  clear h1 h2 h3 hb
  obtain ⟨p1, p2, n, k, e0, t0, e1, t1⟩ := s
  have cP0 : w.cell? ⟨bP, oP, none⟩ = some (.int .i64 0) := hP 0 (by simp)
  have cP1 : w.cell? ⟨bP, oP + 1, none⟩ = some (.int .i64 p1) := hP 1 (by simp)
  have cP2 : w.cell? ⟨bP, oP + 2, none⟩ = some (.int .i64 p2) := hP 2 (by simp)
  have cE0 : w.cell? ⟨bE, oE, none⟩ = some (.int .i64 e0) := hE 0 (by simp)
  have cE1 : w.cell? ⟨bE, oE + 1, none⟩ = some (.int .i64 e1) := hE 1 (by simp)
  have cT0 : w.cell? ⟨bT, oT, none⟩ = some (.int .i64 t0) := hT 0 (by simp)
  have cT1 : w.cell? ⟨bT, oT + 1, none⟩ = some (.int .i64 t1) := hT 1 (by simp)
  clear hP hE hT
  dsimp only [VS.ps] at HV HB1 HB2 HB3 ⊢
  simp only [List.length_cons, List.length_nil, Nat.zero_add, Nat.reduceAdd] at HV HB1 HB2 HB3 ⊢
  have hW := fun (w1 : World) (g1 : Grew w w1) => with_3_2 (xs := [0, p1, p2]) rfl (x % 8) (HB1.out.grew g1)
  have HW := Lib.hid hW
  clear hW
  clear h60 h61
  go_enter Try.func14, Try.ntmps14
  go_upto_region 1 with fail
  have k0 : Blk ((w.alloc (.cells #[.slice (some ⟨bP, oP, none⟩) 3 cP, .int .i64 n, .int .i64 k, .slice (some ⟨bE, oE, none⟩) 2 cE, .slice (some ⟨bT, oT, none⟩) 2 cT] 24)).alloc (.cells #[.slice none 0 0, .int .i64 0, .int .i64 0, .slice none 0 0, .slice none 0 0] 24)) w.heap.size #[.slice (some ⟨bP, oP, none⟩) 3 cP, .int .i64 n, .int .i64 k, .slice (some ⟨bE, oE, none⟩) 2 cE, .slice (some ⟨bT, oT, none⟩) 2 cT] 24 := (Blk.new _ _ _ _ rfl).alloc _
  have r0 : Blk ((w.alloc (.cells #[.slice (some ⟨bP, oP, none⟩) 3 cP, .int .i64 n, .int .i64 k, .slice (some ⟨bE, oE, none⟩) 2 cE, .slice (some ⟨bT, oT, none⟩) 2 cT] 24)).alloc (.cells #[.slice none 0 0, .int .i64 0, .int .i64 0, .slice none 0 0, .slice none 0 0] 24)) (w.heap.size + 1) #[.slice none 0 0, .int .i64 0, .int .i64 0, .slice none 0 0, .slice none 0 0] 24 := Blk.new _ _ _ _ (by simp)
  have g0 : Grew w ((w.alloc (.cells #[.slice (some ⟨bP, oP, none⟩) 3 cP, .int .i64 n, .int .i64 k, .slice (some ⟨bE, oE, none⟩) 2 cE, .slice (some ⟨bT, oT, none⟩) 2 cT] 24)).alloc (.cells #[.slice none 0 0, .int .i64 0, .int .i64 0, .slice none 0 0, .slice none 0 0] 24)) := ((Grew.refl w).alloc _).alloc _
  have s0 := r0.lt
  generalize ((w.alloc (.cells #[.slice (some ⟨bP, oP, none⟩) 3 cP, .int .i64 n, .int .i64 k, .slice (some ⟨bE, oE, none⟩) 2 cE, .slice (some ⟨bT, oT, none⟩) 2 cT] 24)).alloc (.cells #[.slice none 0 0, .int .i64 0, .int .i64 0, .slice none 0 0, .slice none 0 0] 24)) = w0 at *
  have y0 := k0.cell 0
  have y1 := k0.cell 1
  have y2 := k0.cell 2
  have y3 := k0.cell 3
  have y4 := k0.cell 4
  go_wp2_with fail
  refine (HC.out _ g0).mono ?_
  rintro e w1 ⟨rfl, g1⟩
  clear y0 y1 y2 y3 y4
  have k1 := k0.grew g1
  have r1 := r0.grew g1
  have G1 := g0.trans g1
  clear k0 r0 g0 g1 HC
  have y := k1.cell 0
  have u := k1.free 0
  go_wp2_with fail
  refine (HW.out _ G1).mono ?_
  rintro e w2 ⟨aN, cN, rfl, HR, g2⟩
  clear y
  have k2 := k1.grew g2
  have r2 := r1.grew g2
  have G2 := G1.trans g2
  have hsz := r1.lt
  clear k1 r1 G1 g2 HW u
  have y := k2.cell 0
  have u := k2.free 0
  go_upto_region 20 with fail
  have k3 := k2.set (o := 0) (.slice aN 3 cN)
  have r3 := r2.other (show w.heap.size + 1 ≠ w.heap.size by omega) (o := 0) (.slice aN 3 cN)
  have G3 := G2.setCell (b := w.heap.size) (o := 0) (Nat.le_refl _) (.slice aN 3 cN)
  have HR3 := Lib.hid (HR.out.set (c := w.heap.size) (o := 0) (by omega) (.slice aN 3 cN))
  clear y u k2 r2 G2 HR
  generalize w2.setCell ⟨w.heap.size, 0, none⟩ (.slice aN 3 cN) = w3 at *
  have y0 := k3.cell 0
  have y1 := k3.cell 1
  have y2 := k3.cell 2
  have y3 := k3.cell 3
  have y4 := k3.cell 4
  have x0 := r3.cell 0
  have x1 := r3.cell 1
  have x2 := r3.cell 2
  have x3 := r3.cell 3
  have x4 := r3.cell 4
  have f0 := r3.free 0
  have f1 := r3.free 1
  have f2 := r3.free 2
  have f3 := r3.free 3
  have f4 := r3.free 4
  go_wp2_with fail
  clear x0 x1 x2 x3 x4 f0 f1 f2 f3 f4 y0 y1 y2 y3 y4
  have HR4 := Lib.hid ((((((HR3.out.set (c := w.heap.size + 1) (o := 0) (by omega) (.slice aN 3 cN)).set (c := w.heap.size + 1) (o := 1) (by omega) (.int .i64 n)).set (c := w.heap.size + 1) (o := 2) (by omega) (.int .i64 k)).set (c := w.heap.size + 1) (o := 3) (by omega) (.slice (some ⟨bE, oE, none⟩) 2 cE)).set (c := w.heap.size + 1) (o := 4) (by omega) (.slice (some ⟨bT, oT, none⟩) 2 cT)))
  have ky := (((((r3.set (o := 0) (.slice aN 3 cN)).set (o := 1) (.int .i64 n)).set (o := 2) (.int .i64 k)).set (o := 3) (.slice (some ⟨bE, oE, none⟩) 2 cE)).set (o := 4) (.slice (some ⟨bT, oT, none⟩) 2 cT))
  have gy := (((((G3.setCell (b := (w.heap.size + 1)) (o := 0) (by omega) (.slice aN 3 cN)).setCell (b := (w.heap.size + 1)) (o := 1) (by omega) (.int .i64 n)).setCell (b := (w.heap.size + 1)) (o := 2) (by omega) (.int .i64 k)).setCell (b := (w.heap.size + 1)) (o := 3) (by omega) (.slice (some ⟨bE, oE, none⟩) 2 cE)).setCell (b := (w.heap.size + 1)) (o := 4) (by omega) (.slice (some ⟨bT, oT, none⟩) 2 cT))
  generalize (((((w3.setCell ⟨(w.heap.size + 1), 0, none⟩ (.slice aN 3 cN)).setCell ⟨(w.heap.size + 1), 1, none⟩ (.int .i64 n)).setCell ⟨(w.heap.size + 1), 2, none⟩ (.int .i64 k)).setCell ⟨(w.heap.size + 1), 3, none⟩ (.slice (some ⟨bE, oE, none⟩) 2 cE)).setCell ⟨(w.heap.size + 1), 4, none⟩ (.slice (some ⟨bT, oT, none⟩) 2 cT)) = wy at *
  have z0 := ky.cell 0
  have z1 := ky.cell 1
  have z2 := ky.cell 2
  have z3 := ky.cell 3
  have z4 := ky.cell 4
  exact bodyPost_ret (v := .tuple #[.agg #[.slice aN 3 cN, .int .i64 n, .int .i64 k, .slice (some ⟨bE, oE, none⟩) 2 cE, .slice (some ⟨bT, oT, none⟩) 2 cT], .bool true]) (by simp [results, Try.results14, go_sem, z0, z1, z2, z3, z4]) rfl ⟨_, rfl, Lib.hid ⟨⟨_, _, _, rfl, HR4.out.buf HI.out.1, HB2.out.grew gy, HB3.out.grew gy⟩, HI.out.2.2.2.1, HI.out.2.2.2.2⟩, g.trans gy⟩
set_option maxHeartbeats 2000000 in
theorem refStore_3 {v : Value} {s : VS} (hs : s.Ok) (x : Int) (hx0 : 0 ≤ x) (hx1 : x < 18446744073709551616) {W w : World} (hb : Pl w v s.ps) (g : Grew W w) :
    Calls Try.prog 14 #[v, .int .u64 4096, .int .i64 4, .int .u64 x] w fun e w' => ∃ v', e = .returned (.tuple #[v', .bool true]) ∧ Hid (Pl w' v' (s.store 3 (x % 4294967296)).ps) ∧ Grew W w' := by
  have hC := fun (w1 : World) (g1 : Grew w w1) => refCheck_c (Grew.refl w1) (hb.grew g1)
  rw [chk_mk hs] at hC
  have HC := Lib.hid hC
  have hgs := g.size
  have hok := fun r y => (hs.store r y).rows
  have HOK := Lib.hid hok
  have HS := Lib.hid hs
  have h60 := and6_u64 (y := x % 4294967296) (by omega) (by omega)
  have h61 := (and_six (x % 4294967296)).bd
  clear hC hok hs
  have hi := HOK.out 3 (x % 4294967296)
  clear HOK
  have HI := Lib.hid hi
  clear hi
  rw [show s.store 3 (x % 4294967296) = s from rfl] at HI ⊢
  have HV := Lib.hid hb
  obtain ⟨vP, vE, vT, rfl, h1, h2, h3⟩ := hb.shape
  obtain ⟨bP, oP, cP, rfl, lP, hP⟩ := h1.at (by simp)
  obtain ⟨bE, oE, cE, rfl, lE, hE⟩ := h2.at (by simp)
  obtain ⟨bT, oT, cT, rfl, lT, hT⟩ := h3.at (by simp)
  have HB1 := Lib.hid h1
  have HB2 := Lib.hid h2
  have HB3 := Lib.hid h3
  clear h1 h2 h3 hb
  obtain ⟨p1, p2, n, k, e0, t0, e1, t1⟩ := s
  have cP0 : w.cell? ⟨bP, oP, none⟩ = some (.int .i64 0) := hP 0 (by simp)
  have cP1 : w.cell? ⟨bP, oP + 1, none⟩ = some (.int .i64 p1) := hP 1 (by simp)
  have cP2 : w.cell? ⟨bP, oP + 2, none⟩ = some (.int .i64 p2) := hP 2 (by simp)
  have cE0 : w.cell? ⟨bE, oE, none⟩ = some (.int .i64 e0) := hE 0 (by simp)
  have cE1 : w.cell? ⟨bE, oE + 1, none⟩ = some (.int .i64 e1) := hE 1 (by simp)
  have cT0 : w.cell? ⟨bT, oT, none⟩ = some (.int .i64 t0) := hT 0 (by simp)
  have cT1 : w.cell? ⟨bT, oT + 1, none⟩ = some (.int .i64 t1) := hT 1 (by simp)
  clear hP hE hT
  dsimp only [VS.ps] at HV HB1 HB2 HB3 ⊢
  simp only [List.length_cons, List.length_nil, Nat.zero_add, Nat.reduceAdd] at HV HB1 HB2 HB3 ⊢
  clear h60 h61
  go_enter Try.func14, Try.ntmps14
  go_upto_region 1 with fail
  have k0 : Blk ((w.alloc (.cells #[.slice (some ⟨bP, oP, none⟩) 3 cP, .int .i64 n, .int .i64 k, .slice (some ⟨bE, oE, none⟩) 2 cE, .slice (some ⟨bT, oT, none⟩) 2 cT] 24)).alloc (.cells #[.slice none 0 0, .int .i64 0, .int .i64 0, .slice none 0 0, .slice none 0 0] 24)) w.heap.size #[.slice (some ⟨bP, oP, none⟩) 3 cP, .int .i64 n, .int .i64 k, .slice (some ⟨bE, oE, none⟩) 2 cE, .slice (some ⟨bT, oT, none⟩) 2 cT] 24 := (Blk.new _ _ _ _ rfl).alloc _
  have r0 : Blk ((w.alloc (.cells #[.slice (some ⟨bP, oP, none⟩) 3 cP, .int .i64 n, .int .i64 k, .slice (some ⟨bE, oE, none⟩) 2 cE, .slice (some ⟨bT, oT, none⟩) 2 cT] 24)).alloc (.cells #[.slice none 0 0, .int .i64 0, .int .i64 0, .slice none 0 0, .slice none 0 0] 24)) (w.heap.size + 1) #[.slice none 0 0, .int .i64 0, .int .i64 0, .slice none 0 0, .slice none 0 0] 24 := Blk.new _ _ _ _ (by simp)
  have g0 : Grew w ((w.alloc (.cells #[.slice (some ⟨bP, oP, none⟩) 3 cP, .int .i64 n, .int .i64 k, .slice (some ⟨bE, oE, none⟩) 2 cE, .slice (some ⟨bT, oT, none⟩) 2 cT] 24)).alloc (.cells #[.slice none 0 0, .int .i64 0, .int .i64 0, .slice none 0 0, .slice none 0 0] 24)) := ((Grew.refl w).alloc _).alloc _
  have s0 := r0.lt
  generalize ((w.alloc (.cells #[.slice (some ⟨bP, oP, none⟩) 3 cP, .int .i64 n, .int .i64 k, .slice (some ⟨bE, oE, none⟩) 2 cE, .slice (some ⟨bT, oT, none⟩) 2 cT] 24)).alloc (.cells #[.slice none 0 0, .int .i64 0, .int .i64 0, .slice none 0 0, .slice none 0 0] 24)) = w0 at *
  have y0 := k0.cell 0
  have y1 := k0.cell 1
  have y2 := k0.cell 2
  have y3 := k0.cell 3
  have y4 := k0.cell 4
  go_wp2_with fail
  refine (HC.out _ g0).mono ?_
  rintro e w1 ⟨rfl, g1⟩
  clear y0 y1 y2 y3 y4
  have k1 := k0.grew g1
  have r1 := r0.grew g1
  have G1 := g0.trans g1
  clear k0 r0 g0 g1 HC
  have y0 := k1.cell 0
  have y1 := k1.cell 1
  have y2 := k1.cell 2
  have y3 := k1.cell 3
  have y4 := k1.cell 4
  have x0 := r1.cell 0
  have x1 := r1.cell 1
  have x2 := r1.cell 2
  have x3 := r1.cell 3
  have x4 := r1.cell 4
  have f0 := r1.free 0
  have f1 := r1.free 1
  have f2 := r1.free 2
  have f3 := r1.free 3
  have f4 := r1.free 4
  go_wp2_with fail
  clear x0 x1 x2 x3 x4 f0 f1 f2 f3 f4 y0 y1 y2 y3 y4
  have ky := (((((r1.set (o := 0) (.slice (some ⟨bP, oP, none⟩) 3 cP)).set (o := 1) (.int .i64 n)).set (o := 2) (.int .i64 k)).set (o := 3) (.slice (some ⟨bE, oE, none⟩) 2 cE)).set (o := 4) (.slice (some ⟨bT, oT, none⟩) 2 cT))
  have gy := (((((G1.setCell (b := (w.heap.size + 1)) (o := 0) (by omega) (.slice (some ⟨bP, oP, none⟩) 3 cP)).setCell (b := (w.heap.size + 1)) (o := 1) (by omega) (.int .i64 n)).setCell (b := (w.heap.size + 1)) (o := 2) (by omega) (.int .i64 k)).setCell (b := (w.heap.size + 1)) (o := 3) (by omega) (.slice (some ⟨bE, oE, none⟩) 2 cE)).setCell (b := (w.heap.size + 1)) (o := 4) (by omega) (.slice (some ⟨bT, oT, none⟩) 2 cT))
  generalize (((((w1.setCell ⟨(w.heap.size + 1), 0, none⟩ (.slice (some ⟨bP, oP, none⟩) 3 cP)).setCell ⟨(w.heap.size + 1), 1, none⟩ (.int .i64 n)).setCell ⟨(w.heap.size + 1), 2, none⟩ (.int .i64 k)).setCell ⟨(w.heap.size + 1), 3, none⟩ (.slice (some ⟨bE, oE, none⟩) 2 cE)).setCell ⟨(w.heap.size + 1), 4, none⟩ (.slice (some ⟨bT, oT, none⟩) 2 cT)) = wy at *
  have z0 := ky.cell 0
  have z1 := ky.cell 1
  have z2 := ky.cell 2
  have z3 := ky.cell 3
  have z4 := ky.cell 4
  exact bodyPost_ret (v := .tuple #[.agg #[.slice (some ⟨bP, oP, none⟩) 3 cP, .int .i64 n, .int .i64 k, .slice (some ⟨bE, oE, none⟩) 2 cE, .slice (some ⟨bT, oT, none⟩) 2 cT], .bool true]) (by simp [results, Try.results14, go_sem, z0, z1, z2, z3, z4]) rfl ⟨_, rfl, Lib.hid (HV.out.grew gy), g.trans gy⟩
set_option maxHeartbeats 2000000 in
theorem refStore_4 {v : Value} {s : VS} (hs : s.Ok) (x : Int) (hx0 : 0 ≤ x) (hx1 : x < 18446744073709551616) {W w : World} (hb : Pl w v s.ps) (g : Grew W w) :
    Calls Try.prog 14 #[v, .int .u64 8192, .int .i64 4, .int .u64 x] w fun e w' => ∃ v', e = .returned (.tuple #[v', .bool true]) ∧ Hid (Pl w' v' (s.store 4 (x % 4294967296)).ps) ∧ Grew W w' := by
  have hC := fun (w1 : World) (g1 : Grew w w1) => refCheck_c (Grew.refl w1) (hb.grew g1)
  rw [chk_mk hs] at hC
  have HC := Lib.hid hC
  have hgs := g.size
  have hok := fun r y => (hs.store r y).rows
  have HOK := Lib.hid hok
  have HS := Lib.hid hs
  have h60 := and6_u64 (y := x % 4294967296) (by omega) (by omega)
  have h61 := (and_six (x % 4294967296)).bd
  clear hC hok hs
  have hi := HOK.out 4 (x % 4294967296)
  clear HOK
  have hst : s.store 4 (x % 4294967296) = { s with e0 := bits .and .i64 (x % 4294967296) 6 } := by
    have e8 : x % 4294967296 % 8 = x % 8 := by omega
    simp [VS.store, e8]
  rw [hst] at hi ⊢
  clear hst
  have HI := Lib.hid hi
  clear hi
  have HV := Lib.hid hb
  obtain ⟨vP, vE, vT, rfl, h1, h2, h3⟩ := hb.shape
  obtain ⟨bP, oP, cP, rfl, lP, hP⟩ := h1.at (by simp)
  obtain ⟨bE, oE, cE, rfl, lE, hE⟩ := h2.at (by simp)
  obtain ⟨bT, oT, cT, rfl, lT, hT⟩ := h3.at (by simp)
  have HB1 := Lib.hid h1
  have HB2 := Lib.hid h2
  have HB3 := Lib.hid h3
  clear h1 h2 h3 hb
  obtain ⟨p1, p2, n, k, e0, t0, e1, t1⟩ := s
  have cP0 : w.cell? ⟨bP, oP, none⟩ = some (.int .i64 0) := hP 0 (by simp)
  have cP1 : w.cell? ⟨bP, oP + 1, none⟩ = some (.int .i64 p1) := hP 1 (by simp)
  have cP2 : w.cell? ⟨bP, oP + 2, none⟩ = some (.int .i64 p2) := hP 2 (by simp)
  have cE0 : w.cell? ⟨bE, oE, none⟩ = some (.int .i64 e0) := hE 0 (by simp)
  have cE1 : w.cell? ⟨bE, oE + 1, none⟩ = some (.int .i64 e1) := hE 1 (by simp)
  have cT0 : w.cell? ⟨bT, oT, none⟩ = some (.int .i64 t0) := hT 0 (by simp)
  have cT1 : w.cell? ⟨bT, oT + 1, none⟩ = some (.int .i64 t1) := hT 1 (by simp)
  clear hP hE hT
  dsimp only [VS.ps] at HV HB1 HB2 HB3 ⊢
  simp only [List.length_cons, List.length_nil, Nat.zero_add, Nat.reduceAdd] at HV HB1 HB2 HB3 ⊢
  have hW := fun (w1 : World) (g1 : Grew w w1) => with_2_0 (xs := [e0, e1]) rfl (bits .and .i64 (x % 4294967296) 6) (HB2.out.grew g1)
  have HW := Lib.hid hW
  clear hW
  go_enter Try.func14, Try.ntmps14
  go_upto_region 1 with fail
  have k0 : Blk ((w.alloc (.cells #[.slice (some ⟨bP, oP, none⟩) 3 cP, .int .i64 n, .int .i64 k, .slice (some ⟨bE, oE, none⟩) 2 cE, .slice (some ⟨bT, oT, none⟩) 2 cT] 24)).alloc (.cells #[.slice none 0 0, .int .i64 0, .int .i64 0, .slice none 0 0, .slice none 0 0] 24)) w.heap.size #[.slice (some ⟨bP, oP, none⟩) 3 cP, .int .i64 n, .int .i64 k, .slice (some ⟨bE, oE, none⟩) 2 cE, .slice (some ⟨bT, oT, none⟩) 2 cT] 24 := (Blk.new _ _ _ _ rfl).alloc _
  have r0 : Blk ((w.alloc (.cells #[.slice (some ⟨bP, oP, none⟩) 3 cP, .int .i64 n, .int .i64 k, .slice (some ⟨bE, oE, none⟩) 2 cE, .slice (some ⟨bT, oT, none⟩) 2 cT] 24)).alloc (.cells #[.slice none 0 0, .int .i64 0, .int .i64 0, .slice none 0 0, .slice none 0 0] 24)) (w.heap.size + 1) #[.slice none 0 0, .int .i64 0, .int .i64 0, .slice none 0 0, .slice none 0 0] 24 := Blk.new _ _ _ _ (by simp)
  have g0 : Grew w ((w.alloc (.cells #[.slice (some ⟨bP, oP, none⟩) 3 cP, .int .i64 n, .int .i64 k, .slice (some ⟨bE, oE, none⟩) 2 cE, .slice (some ⟨bT, oT, none⟩) 2 cT] 24)).alloc (.cells #[.slice none 0 0, .int .i64 0, .int .i64 0, .slice none 0 0, .slice none 0 0] 24)) := ((Grew.refl w).alloc _).alloc _
  have s0 := r0.lt
  generalize ((w.alloc (.cells #[.slice (some ⟨bP, oP, none⟩) 3 cP, .int .i64 n, .int .i64 k, .slice (some ⟨bE, oE, none⟩) 2 cE, .slice (some ⟨bT, oT, none⟩) 2 cT] 24)).alloc (.cells #[.slice none 0 0, .int .i64 0, .int .i64 0, .slice none 0 0, .slice none 0 0] 24)) = w0 at *
  have y0 := k0.cell 0
  have y1 := k0.cell 1
  have y2 := k0.cell 2
  have y3 := k0.cell 3
  have y4 := k0.cell 4
  go_wp2_with fail
  refine (HC.out _ g0).mono ?_
  rintro e w1 ⟨rfl, g1⟩
  clear y0 y1 y2 y3 y4
  have k1 := k0.grew g1
  have r1 := r0.grew g1
  have G1 := g0.trans g1
  clear k0 r0 g0 g1 HC
  have y := k1.cell 3
  have u := k1.free 3
  go_wp2_with fail
  refine (HW.out _ G1).mono ?_
  rintro e w2 ⟨aN, cN, rfl, HR, g2⟩
  clear y
  have k2 := k1.grew g2
  have r2 := r1.grew g2
  have G2 := G1.trans g2
  have hsz := r1.lt
  clear k1 r1 G1 g2 HW u
  have y := k2.cell 3
  have u := k2.free 3
  go_upto_region 20 with fail
  have k3 := k2.set (o := 3) (.slice aN 2 cN)
  have r3 := r2.other (show w.heap.size + 1 ≠ w.heap.size by omega) (o := 3) (.slice aN 2 cN)
  have G3 := G2.setCell (b := w.heap.size) (o := 3) (Nat.le_refl _) (.slice aN 2 cN)
  have HR3 := Lib.hid (HR.out.set (c := w.heap.size) (o := 3) (by omega) (.slice aN 2 cN))
  clear y u k2 r2 G2 HR
  generalize w2.setCell ⟨w.heap.size, 3, none⟩ (.slice aN 2 cN) = w3 at *
  have y0 := k3.cell 0
  have y1 := k3.cell 1
  have y2 := k3.cell 2
  have y3 := k3.cell 3
  have y4 := k3.cell 4
  have x0 := r3.cell 0
  have x1 := r3.cell 1
  have x2 := r3.cell 2
  have x3 := r3.cell 3
  have x4 := r3.cell 4
  have f0 := r3.free 0
  have f1 := r3.free 1
  have f2 := r3.free 2
  have f3 := r3.free 3
  have f4 := r3.free 4
  go_wp2_with fail
  clear x0 x1 x2 x3 x4 f0 f1 f2 f3 f4 y0 y1 y2 y3 y4
  have HR4 := Lib.hid ((((((HR3.out.set (c := w.heap.size + 1) (o := 0) (by omega) (.slice (some ⟨bP, oP, none⟩) 3 cP)).set (c := w.heap.size + 1) (o := 1) (by omega) (.int .i64 n)).set (c := w.heap.size + 1) (o := 2) (by omega) (.int .i64 k)).set (c := w.heap.size + 1) (o := 3) (by omega) (.slice aN 2 cN)).set (c := w.heap.size + 1) (o := 4) (by omega) (.slice (some ⟨bT, oT, none⟩) 2 cT)))
  have ky := (((((r3.set (o := 0) (.slice (some ⟨bP, oP, none⟩) 3 cP)).set (o := 1) (.int .i64 n)).set (o := 2) (.int .i64 k)).set (o := 3) (.slice aN 2 cN)).set (o := 4) (.slice (some ⟨bT, oT, none⟩) 2 cT))
  have gy := (((((G3.setCell (b := (w.heap.size + 1)) (o := 0) (by omega) (.slice (some ⟨bP, oP, none⟩) 3 cP)).setCell (b := (w.heap.size + 1)) (o := 1) (by omega) (.int .i64 n)).setCell (b := (w.heap.size + 1)) (o := 2) (by omega) (.int .i64 k)).setCell (b := (w.heap.size + 1)) (o := 3) (by omega) (.slice aN 2 cN)).setCell (b := (w.heap.size + 1)) (o := 4) (by omega) (.slice (some ⟨bT, oT, none⟩) 2 cT))
  generalize (((((w3.setCell ⟨(w.heap.size + 1), 0, none⟩ (.slice (some ⟨bP, oP, none⟩) 3 cP)).setCell ⟨(w.heap.size + 1), 1, none⟩ (.int .i64 n)).setCell ⟨(w.heap.size + 1), 2, none⟩ (.int .i64 k)).setCell ⟨(w.heap.size + 1), 3, none⟩ (.slice aN 2 cN)).setCell ⟨(w.heap.size + 1), 4, none⟩ (.slice (some ⟨bT, oT, none⟩) 2 cT)) = wy at *
  have z0 := ky.cell 0
  have z1 := ky.cell 1
  have z2 := ky.cell 2
  have z3 := ky.cell 3
  have z4 := ky.cell 4
  exact bodyPost_ret (v := .tuple #[.agg #[.slice (some ⟨bP, oP, none⟩) 3 cP, .int .i64 n, .int .i64 k, .slice aN 2 cN, .slice (some ⟨bT, oT, none⟩) 2 cT], .bool true]) (by simp [results, Try.results14, go_sem, z0, z1, z2, z3, z4]) rfl ⟨_, rfl, Lib.hid ⟨⟨_, _, _, rfl, HB1.out.grew gy, HR4.out.buf HI.out.2.1, HB3.out.grew gy⟩, HI.out.2.2.2.1, HI.out.2.2.2.2⟩, g.trans gy⟩
set_option maxHeartbeats 2000000 in
theorem refStore_5 {v : Value} {s : VS} (hs : s.Ok) (x : Int) (hx0 : 0 ≤ x) (hx1 : x < 18446744073709551616) {W w : World} (hb : Pl w v s.ps) (g : Grew W w) :
    Calls Try.prog 14 #[v, .int .u64 8320, .int .i64 4, .int .u64 x] w fun e w' => ∃ v', e = .returned (.tuple #[v', .bool true]) ∧ Hid (Pl w' v' (s.store 5 (x % 4294967296)).ps) ∧ Grew W w' := by
  have hC := fun (w1 : World) (g1 : Grew w w1) => refCheck_c (Grew.refl w1) (hb.grew g1)
  rw [chk_mk hs] at hC
  have HC := Lib.hid hC
  have hgs := g.size
  have hok := fun r y => (hs.store r y).rows
  have HOK := Lib.hid hok
  have HS := Lib.hid hs
  have h60 := and6_u64 (y := x % 4294967296) (by omega) (by omega)
  have h61 := (and_six (x % 4294967296)).bd
  clear hC hok hs
  have hi := HOK.out 5 (x % 4294967296)
  clear HOK
  have hst : s.store 5 (x % 4294967296) = { s with e1 := bits .and .i64 (x % 4294967296) 6 } := by
    have e8 : x % 4294967296 % 8 = x % 8 := by omega
    simp [VS.store, e8]
  rw [hst] at hi ⊢
  clear hst
  have HI := Lib.hid hi
  clear hi
  have HV := Lib.hid hb
  obtain ⟨vP, vE, vT, rfl, h1, h2, h3⟩ := hb.shape
  obtain ⟨bP, oP, cP, rfl, lP, hP⟩ := h1.at (by simp)
  obtain ⟨bE, oE, cE, rfl, lE, hE⟩ := h2.at (by simp)
  obtain ⟨bT, oT, cT, rfl, lT, hT⟩ := h3.at (by simp)
  have HB1 := Lib.hid h1
  have HB2 := Lib.hid h2
  have HB3 := Lib.hid h3
  clear h1 h2 h3 hb
  obtain ⟨p1, p2, n, k, e0, t0, e1, t1⟩ := s
  have cP0 : w.cell? ⟨bP, oP, none⟩ = some (.int .i64 0) := hP 0 (by simp)
  have cP1 : w.cell? ⟨bP, oP + 1, none⟩ = some (.int .i64 p1) := hP 1 (by simp)
  have cP2 : w.cell? ⟨bP, oP + 2, none⟩ = some (.int .i64 p2) := hP 2 (by simp)
  have cE0 : w.cell? ⟨bE, oE, none⟩ = some (.int .i64 e0) := hE 0 (by simp)
  have cE1 : w.cell? ⟨bE, oE + 1, none⟩ = some (.int .i64 e1) := hE 1 (by simp)
  have cT0 : w.cell? ⟨bT, oT, none⟩ = some (.int .i64 t0) := hT 0 (by simp)
  have cT1 : w.cell? ⟨bT, oT + 1, none⟩ = some (.int .i64 t1) := hT 1 (by simp)
  clear hP hE hT
  dsimp only [VS.ps] at HV HB1 HB2 HB3 ⊢
  simp only [List.length_cons, List.length_nil, Nat.zero_add, Nat.reduceAdd] at HV HB1 HB2 HB3 ⊢
  have hW := fun (w1 : World) (g1 : Grew w w1) => with_2_1 (xs := [e0, e1]) rfl (bits .and .i64 (x % 4294967296) 6) (HB2.out.grew g1)
  have HW := Lib.hid hW
  clear hW
  go_enter Try.func14, Try.ntmps14
  go_upto_region 1 with fail
  have k0 : Blk ((w.alloc (.cells #[.slice (some ⟨bP, oP, none⟩) 3 cP, .int .i64 n, .int .i64 k, .slice (some ⟨bE, oE, none⟩) 2 cE, .slice (some ⟨bT, oT, none⟩) 2 cT] 24)).alloc (.cells #[.slice none 0 0, .int .i64 0, .int .i64 0, .slice none 0 0, .slice none 0 0] 24)) w.heap.size #[.slice (some ⟨bP, oP, none⟩) 3 cP, .int .i64 n, .int .i64 k, .slice (some ⟨bE, oE, none⟩) 2 cE, .slice (some ⟨bT, oT, none⟩) 2 cT] 24 := (Blk.new _ _ _ _ rfl).alloc _
  have r0 : Blk ((w.alloc (.cells #[.slice (some ⟨bP, oP, none⟩) 3 cP, .int .i64 n, .int .i64 k, .slice (some ⟨bE, oE, none⟩) 2 cE, .slice (some ⟨bT, oT, none⟩) 2 cT] 24)).alloc (.cells #[.slice none 0 0, .int .i64 0, .int .i64 0, .slice none 0 0, .slice none 0 0] 24)) (w.heap.size + 1) #[.slice none 0 0, .int .i64 0, .int .i64 0, .slice none 0 0, .slice none 0 0] 24 := Blk.new _ _ _ _ (by simp)
  have g0 : Grew w ((w.alloc (.cells #[.slice (some ⟨bP, oP, none⟩) 3 cP, .int .i64 n, .int .i64 k, .slice (some ⟨bE, oE, none⟩) 2 cE, .slice (some ⟨bT, oT, none⟩) 2 cT] 24)).alloc (.cells #[.slice none 0 0, .int .i64 0, .int .i64 0, .slice none 0 0, .slice none 0 0] 24)) := ((Grew.refl w).alloc _).alloc _
  have s0 := r0.lt
  generalize ((w.alloc (.cells #[.slice (some ⟨bP, oP, none⟩) 3 cP, .int .i64 n, .int .i64 k, .slice (some ⟨bE, oE, none⟩) 2 cE, .slice (some ⟨bT, oT, none⟩) 2 cT] 24)).alloc (.cells #[.slice none 0 0, .int .i64 0, .int .i64 0, .slice none 0 0, .slice none 0 0] 24)) = w0 at *
  have y0 := k0.cell 0
  have y1 := k0.cell 1
  have y2 := k0.cell 2
  have y3 := k0.cell 3
  have y4 := k0.cell 4
  go_wp2_with fail
  refine (HC.out _ g0).mono ?_
  rintro e w1 ⟨rfl, g1⟩
  clear y0 y1 y2 y3 y4
  have k1 := k0.grew g1
  have r1 := r0.grew g1
  have G1 := g0.trans g1
  clear k0 r0 g0 g1 HC
  have y := k1.cell 3
  have u := k1.free 3
  go_wp2_with fail
  refine (HW.out _ G1).mono ?_
  rintro e w2 ⟨aN, cN, rfl, HR, g2⟩
  clear y
  have k2 := k1.grew g2
  have r2 := r1.grew g2
  have G2 := G1.trans g2
  have hsz := r1.lt
  clear k1 r1 G1 g2 HW u
  have y := k2.cell 3
  have u := k2.free 3
  go_upto_region 20 with fail
  have k3 := k2.set (o := 3) (.slice aN 2 cN)
  have r3 := r2.other (show w.heap.size + 1 ≠ w.heap.size by omega) (o := 3) (.slice aN 2 cN)
  have G3 := G2.setCell (b := w.heap.size) (o := 3) (Nat.le_refl _) (.slice aN 2 cN)
  have HR3 := Lib.hid (HR.out.set (c := w.heap.size) (o := 3) (by omega) (.slice aN 2 cN))
  clear y u k2 r2 G2 HR
  generalize w2.setCell ⟨w.heap.size, 3, none⟩ (.slice aN 2 cN) = w3 at *
  have y0 := k3.cell 0
  have y1 := k3.cell 1
  have y2 := k3.cell 2
  have y3 := k3.cell 3
  have y4 := k3.cell 4
  have x0 := r3.cell 0
  have x1 := r3.cell 1
  have x2 := r3.cell 2
  have x3 := r3.cell 3
  have x4 := r3.cell 4
  have f0 := r3.free 0
  have f1 := r3.free 1
  have f2 := r3.free 2
  have f3 := r3.free 3
  have f4 := r3.free 4
  go_wp2_with fail
  clear x0 x1 x2 x3 x4 f0 f1 f2 f3 f4 y0 y1 y2 y3 y4
  have HR4 := Lib.hid ((((((HR3.out.set (c := w.heap.size + 1) (o := 0) (by omega) (.slice (some ⟨bP, oP, none⟩) 3 cP)).set (c := w.heap.size + 1) (o := 1) (by omega) (.int .i64 n)).set (c := w.heap.size + 1) (o := 2) (by omega) (.int .i64 k)).set (c := w.heap.size + 1) (o := 3) (by omega) (.slice aN 2 cN)).set (c := w.heap.size + 1) (o := 4) (by omega) (.slice (some ⟨bT, oT, none⟩) 2 cT)))
  have ky := (((((r3.set (o := 0) (.slice (some ⟨bP, oP, none⟩) 3 cP)).set (o := 1) (.int .i64 n)).set (o := 2) (.int .i64 k)).set (o := 3) (.slice aN 2 cN)).set (o := 4) (.slice (some ⟨bT, oT, none⟩) 2 cT))
  have gy := (((((G3.setCell (b := (w.heap.size + 1)) (o := 0) (by omega) (.slice (some ⟨bP, oP, none⟩) 3 cP)).setCell (b := (w.heap.size + 1)) (o := 1) (by omega) (.int .i64 n)).setCell (b := (w.heap.size + 1)) (o := 2) (by omega) (.int .i64 k)).setCell (b := (w.heap.size + 1)) (o := 3) (by omega) (.slice aN 2 cN)).setCell (b := (w.heap.size + 1)) (o := 4) (by omega) (.slice (some ⟨bT, oT, none⟩) 2 cT))
  generalize (((((w3.setCell ⟨(w.heap.size + 1), 0, none⟩ (.slice (some ⟨bP, oP, none⟩) 3 cP)).setCell ⟨(w.heap.size + 1), 1, none⟩ (.int .i64 n)).setCell ⟨(w.heap.size + 1), 2, none⟩ (.int .i64 k)).setCell ⟨(w.heap.size + 1), 3, none⟩ (.slice aN 2 cN)).setCell ⟨(w.heap.size + 1), 4, none⟩ (.slice (some ⟨bT, oT, none⟩) 2 cT)) = wy at *
  have z0 := ky.cell 0
  have z1 := ky.cell 1
  have z2 := ky.cell 2
  have z3 := ky.cell 3
  have z4 := ky.cell 4
  exact bodyPost_ret (v := .tuple #[.agg #[.slice (some ⟨bP, oP, none⟩) 3 cP, .int .i64 n, .int .i64 k, .slice aN 2 cN, .slice (some ⟨bT, oT, none⟩) 2 cT], .bool true]) (by simp [results, Try.results14, go_sem, z0, z1, z2, z3, z4]) rfl ⟨_, rfl, Lib.hid ⟨⟨_, _, _, rfl, HB1.out.grew gy, HR4.out.buf HI.out.2.1, HB3.out.grew gy⟩, HI.out.2.2.2.1, HI.out.2.2.2.2⟩, g.trans gy⟩
set_option maxHeartbeats 2000000 in
theorem refStore_6 {v : Value} {s : VS} (hs : s.Ok) (x : Int) (hx0 : 0 ≤ x) (hx1 : x < 18446744073709551616) {W w : World} (hb : Pl w v s.ps) (g : Grew W w) :
    Calls Try.prog 14 #[v, .int .u64 2097152, .int .i64 4, .int .u64 x] w fun e w' => ∃ v', e = .returned (.tuple #[v', .bool true]) ∧ Hid (Pl w' v' (s.store 6 (x % 4294967296)).ps) ∧ Grew W w' := by
  have hC := fun (w1 : World) (g1 : Grew w w1) => refCheck_c (Grew.refl w1) (hb.grew g1)
  rw [chk_mk hs] at hC
  have HC := Lib.hid hC
  have hgs := g.size
  have hok := fun r y => (hs.store r y).rows
  have HOK := Lib.hid hok
  have HS := Lib.hid hs
  have h60 := and6_u64 (y := x % 4294967296) (by omega) (by omega)
  have h61 := (and_six (x % 4294967296)).bd
  clear hC hok hs
  have hi := HOK.out 6 (x % 4294967296)
  clear HOK
  have hst : s.store 6 (x % 4294967296) = { s with t0 := x % 8 } := by
    have e8 : x % 4294967296 % 8 = x % 8 := by omega
    simp [VS.store, e8]
  rw [hst] at hi ⊢
  clear hst
  have HI := Lib.hid hi
  clear hi
  have HV := Lib.hid hb
  obtain ⟨vP, vE, vT, rfl, h1, h2, h3⟩ := hb.shape
  obtain ⟨bP, oP, cP, rfl, lP, hP⟩ := h1.at (by simp)
  obtain ⟨bE, oE, cE, rfl, lE, hE⟩ := h2.at (by simp)
  obtain ⟨bT, oT, cT, rfl, lT, hT⟩ := h3.at (by simp)
  have HB1 := Lib.hid h1
  have HB2 := Lib.hid h2
  have HB3 := Lib.hid h3
  clear h1 h2 h3 hb
  obtain ⟨p1, p2, n, k, e0, t0, e1, t1⟩ := s
  have cP0 : w.cell? ⟨bP, oP, none⟩ = some (.int .i64 0) := hP 0 (by simp)
  have cP1 : w.cell? ⟨bP, oP + 1, none⟩ = some (.int .i64 p1) := hP 1 (by simp)
  have cP2 : w.cell? ⟨bP, oP + 2, none⟩ = some (.int .i64 p2) := hP 2 (by simp)
  have cE0 : w.cell? ⟨bE, oE, none⟩ = some (.int .i64 e0) := hE 0 (by simp)
  have cE1 : w.cell? ⟨bE, oE + 1, none⟩ = some (.int .i64 e1) := hE 1 (by simp)
  have cT0 : w.cell? ⟨bT, oT, none⟩ = some (.int .i64 t0) := hT 0 (by simp)
  have cT1 : w.cell? ⟨bT, oT + 1, none⟩ = some (.int .i64 t1) := hT 1 (by simp)
  clear hP hE hT
  dsimp only [VS.ps] at HV HB1 HB2 HB3 ⊢
  simp only [List.length_cons, List.length_nil, Nat.zero_add, Nat.reduceAdd] at HV HB1 HB2 HB3 ⊢
  have hW := fun (w1 : World) (g1 : Grew w w1) => with_2_0 (xs := [t0, t1]) rfl (x % 8) (HB3.out.grew g1)
  have HW := Lib.hid hW
  clear hW
  clear h60 h61
  go_enter Try.func14, Try.ntmps14
  go_upto_region 1 with fail
  have k0 : Blk ((w.alloc (.cells #[.slice (some ⟨bP, oP, none⟩) 3 cP, .int .i64 n, .int .i64 k, .slice (some ⟨bE, oE, none⟩) 2 cE, .slice (some ⟨bT, oT, none⟩) 2 cT] 24)).alloc (.cells #[.slice none 0 0, .int .i64 0, .int .i64 0, .slice none 0 0, .slice none 0 0] 24)) w.heap.size #[.slice (some ⟨bP, oP, none⟩) 3 cP, .int .i64 n, .int .i64 k, .slice (some ⟨bE, oE, none⟩) 2 cE, .slice (some ⟨bT, oT, none⟩) 2 cT] 24 := (Blk.new _ _ _ _ rfl).alloc _
  have r0 : Blk ((w.alloc (.cells #[.slice (some ⟨bP, oP, none⟩) 3 cP, .int .i64 n, .int .i64 k, .slice (some ⟨bE, oE, none⟩) 2 cE, .slice (some ⟨bT, oT, none⟩) 2 cT] 24)).alloc (.cells #[.slice none 0 0, .int .i64 0, .int .i64 0, .slice none 0 0, .slice none 0 0] 24)) (w.heap.size + 1) #[.slice none 0 0, .int .i64 0, .int .i64 0, .slice none 0 0, .slice none 0 0] 24 := Blk.new _ _ _ _ (by simp)
  have g0 : Grew w ((w.alloc (.cells #[.slice (some ⟨bP, oP, none⟩) 3 cP, .int .i64 n, .int .i64 k, .slice (some ⟨bE, oE, none⟩) 2 cE, .slice (some ⟨bT, oT, none⟩) 2 cT] 24)).alloc (.cells #[.slice none 0 0, .int .i64 0, .int .i64 0, .slice none 0 0, .slice none 0 0] 24)) := ((Grew.refl w).alloc _).alloc _
  have s0 := r0.lt
  generalize ((w.alloc (.cells #[.slice (some ⟨bP, oP, none⟩) 3 cP, .int .i64 n, .int .i64 k, .slice (some ⟨bE, oE, none⟩) 2 cE, .slice (some ⟨bT, oT, none⟩) 2 cT] 24)).alloc (.cells #[.slice none 0 0, .int .i64 0, .int .i64 0, .slice none 0 0, .slice none 0 0] 24)) = w0 at *
  have y0 := k0.cell 0
  have y1 := k0.cell 1
  have y2 := k0.cell 2
  have y3 := k0.cell 3
  have y4 := k0.cell 4
  go_wp2_with fail
  refine (HC.out _ g0).mono ?_
  rintro e w1 ⟨rfl, g1⟩
  clear y0 y1 y2 y3 y4
  have k1 := k0.grew g1
  have r1 := r0.grew g1
  have G1 := g0.trans g1
  clear k0 r0 g0 g1 HC
  have y := k1.cell 4
  have u := k1.free 4
  go_wp2_with fail
  refine (HW.out _ G1).mono ?_
  rintro e w2 ⟨aN, cN, rfl, HR, g2⟩
  clear y
  have k2 := k1.grew g2
  have r2 := r1.grew g2
  have G2 := G1.trans g2
  have hsz := r1.lt
  clear k1 r1 G1 g2 HW u
  have y := k2.cell 4
  have u := k2.free 4
  go_upto_region 20 with fail
  have k3 := k2.set (o := 4) (.slice aN 2 cN)
  have r3 := r2.other (show w.heap.size + 1 ≠ w.heap.size by omega) (o := 4) (.slice aN 2 cN)
  have G3 := G2.setCell (b := w.heap.size) (o := 4) (Nat.le_refl _) (.slice aN 2 cN)
  have HR3 := Lib.hid (HR.out.set (c := w.heap.size) (o := 4) (by omega) (.slice aN 2 cN))
  clear y u k2 r2 G2 HR
  generalize w2.setCell ⟨w.heap.size, 4, none⟩ (.slice aN 2 cN) = w3 at *
  have y0 := k3.cell 0
  have y1 := k3.cell 1
  have y2 := k3.cell 2
  have y3 := k3.cell 3
  have y4 := k3.cell 4
  have x0 := r3.cell 0
  have x1 := r3.cell 1
  have x2 := r3.cell 2
  have x3 := r3.cell 3
  have x4 := r3.cell 4
  have f0 := r3.free 0
  have f1 := r3.free 1
  have f2 := r3.free 2
  have f3 := r3.free 3
  have f4 := r3.free 4
  go_wp2_with fail
  clear x0 x1 x2 x3 x4 f0 f1 f2 f3 f4 y0 y1 y2 y3 y4
  have HR4 := Lib.hid ((((((HR3.out.set (c := w.heap.size + 1) (o := 0) (by omega) (.slice (some ⟨bP, oP, none⟩) 3 cP)).set (c := w.heap.size + 1) (o := 1) (by omega) (.int .i64 n)).set (c := w.heap.size + 1) (o := 2) (by omega) (.int .i64 k)).set (c := w.heap.size + 1) (o := 3) (by omega) (.slice (some ⟨bE, oE, none⟩) 2 cE)).set (c := w.heap.size + 1) (o := 4) (by omega) (.slice aN 2 cN)))
  have ky := (((((r3.set (o := 0) (.slice (some ⟨bP, oP, none⟩) 3 cP)).set (o := 1) (.int .i64 n)).set (o := 2) (.int .i64 k)).set (o := 3) (.slice (some ⟨bE, oE, none⟩) 2 cE)).set (o := 4) (.slice aN 2 cN))
  have gy := (((((G3.setCell (b := (w.heap.size + 1)) (o := 0) (by omega) (.slice (some ⟨bP, oP, none⟩) 3 cP)).setCell (b := (w.heap.size + 1)) (o := 1) (by omega) (.int .i64 n)).setCell (b := (w.heap.size + 1)) (o := 2) (by omega) (.int .i64 k)).setCell (b := (w.heap.size + 1)) (o := 3) (by omega) (.slice (some ⟨bE, oE, none⟩) 2 cE)).setCell (b := (w.heap.size + 1)) (o := 4) (by omega) (.slice aN 2 cN))
  generalize (((((w3.setCell ⟨(w.heap.size + 1), 0, none⟩ (.slice (some ⟨bP, oP, none⟩) 3 cP)).setCell ⟨(w.heap.size + 1), 1, none⟩ (.int .i64 n)).setCell ⟨(w.heap.size + 1), 2, none⟩ (.int .i64 k)).setCell ⟨(w.heap.size + 1), 3, none⟩ (.slice (some ⟨bE, oE, none⟩) 2 cE)).setCell ⟨(w.heap.size + 1), 4, none⟩ (.slice aN 2 cN)) = wy at *
  have z0 := ky.cell 0
  have z1 := ky.cell 1
  have z2 := ky.cell 2
  have z3 := ky.cell 3
  have z4 := ky.cell 4
  exact bodyPost_ret (v := .tuple #[.agg #[.slice (some ⟨bP, oP, none⟩) 3 cP, .int .i64 n, .int .i64 k, .slice (some ⟨bE, oE, none⟩) 2 cE, .slice aN 2 cN], .bool true]) (by simp [results, Try.results14, go_sem, z0, z1, z2, z3, z4]) rfl ⟨_, rfl, Lib.hid ⟨⟨_, _, _, rfl, HB1.out.grew gy, HB2.out.grew gy, HR4.out.buf HI.out.2.2.1⟩, HI.out.2.2.2.1, HI.out.2.2.2.2⟩, g.trans gy⟩
set_option maxHeartbeats 2000000 in
theorem refStore_7 {v : Value} {s : VS} (hs : s.Ok) (x : Int) (hx0 : 0 ≤ x) (hx1 : x < 18446744073709551616) {W w : World} (hb : Pl w v s.ps) (g : Grew W w) :
    Calls Try.prog 14 #[v, .int .u64 2101248, .int .i64 4, .int .u64 x] w fun e w' => ∃ v', e = .returned (.tuple #[v', .bool true]) ∧ Hid (Pl w' v' (s.store 7 (x % 4294967296)).ps) ∧ Grew W w' := by
  have hC := fun (w1 : World) (g1 : Grew w w1) => refCheck_c (Grew.refl w1) (hb.grew g1)
  rw [chk_mk hs] at hC
  have HC := Lib.hid hC
  have hgs := g.size
  have hok := fun r y => (hs.store r y).rows
  have HOK := Lib.hid hok
  have HS := Lib.hid hs
  have h60 := and6_u64 (y := x % 4294967296) (by omega) (by omega)
  have h61 := (and_six (x % 4294967296)).bd
  clear hC hok hs
  have hi := HOK.out 7 (x % 4294967296)
  clear HOK
  have hst : s.store 7 (x % 4294967296) = { s with t1 := x % 8 } := by
    have e8 : x % 4294967296 % 8 = x % 8 := by omega
    simp [VS.store, e8]
  rw [hst] at hi ⊢
  clear hst
  have HI := Lib.hid hi
  clear hi
  have HV := Lib.hid hb
  obtain ⟨vP, vE, vT, rfl, h1, h2, h3⟩ := hb.shape
  obtain ⟨bP, oP, cP, rfl, lP, hP⟩ := h1.at (by simp)
  obtain ⟨bE, oE, cE, rfl, lE, hE⟩ := h2.at (by simp)
  obtain ⟨bT, oT, cT, rfl, lT, hT⟩ := h3.at (by simp)
  have HB1 := Lib.hid h1
  have HB2 := Lib.hid h2
  have HB3 := Lib.hid h3
  clear h1 h2 h3 hb
  obtain ⟨p1, p2, n, k, e0, t0, e1, t1⟩ := s
  have cP0 : w.cell? ⟨bP, oP, none⟩ = some (.int .i64 0) := hP 0 (by simp)
  have cP1 : w.cell? ⟨bP, oP + 1, none⟩ = some (.int .i64 p1) := hP 1 (by simp)
  have cP2 : w.cell? ⟨bP, oP + 2, none⟩ = some (.int .i64 p2) := hP 2 (by simp)
  have cE0 : w.cell? ⟨bE, oE, none⟩ = some (.int .i64 e0) := hE 0 (by simp)
  have cE1 : w.cell? ⟨bE, oE + 1, none⟩ = some (.int .i64 e1) := hE 1 (by simp)
  have cT0 : w.cell? ⟨bT, oT, none⟩ = some (.int .i64 t0) := hT 0 (by simp)
  have cT1 : w.cell? ⟨bT, oT + 1, none⟩ = some (.int .i64 t1) := hT 1 (by simp)
  clear hP hE hT
  dsimp only [VS.ps] at HV HB1 HB2 HB3 ⊢
  simp only [List.length_cons, List.length_nil, Nat.zero_add, Nat.reduceAdd] at HV HB1 HB2 HB3 ⊢
  have hW := fun (w1 : World) (g1 : Grew w w1) => with_2_1 (xs := [t0, t1]) rfl (x % 8) (HB3.out.grew g1)
  have HW := Lib.hid hW
  clear hW
  clear h60 h61
  go_enter Try.func14, Try.ntmps14
  go_upto_region 1 with fail
  have k0 : Blk ((w.alloc (.cells #[.slice (some ⟨bP, oP, none⟩) 3 cP, .int .i64 n, .int .i64 k, .slice (some ⟨bE, oE, none⟩) 2 cE, .slice (some ⟨bT, oT, none⟩) 2 cT] 24)).alloc (.cells #[.slice none 0 0, .int .i64 0, .int .i64 0, .slice none 0 0, .slice none 0 0] 24)) w.heap.size #[.slice (some ⟨bP, oP, none⟩) 3 cP, .int .i64 n, .int .i64 k, .slice (some ⟨bE, oE, none⟩) 2 cE, .slice (some ⟨bT, oT, none⟩) 2 cT] 24 := (Blk.new _ _ _ _ rfl).alloc _
  have r0 : Blk ((w.alloc (.cells #[.slice (some ⟨bP, oP, none⟩) 3 cP, .int .i64 n, .int .i64 k, .slice (some ⟨bE, oE, none⟩) 2 cE, .slice (some ⟨bT, oT, none⟩) 2 cT] 24)).alloc (.cells #[.slice none 0 0, .int .i64 0, .int .i64 0, .slice none 0 0, .slice none 0 0] 24)) (w.heap.size + 1) #[.slice none 0 0, .int .i64 0, .int .i64 0, .slice none 0 0, .slice none 0 0] 24 := Blk.new _ _ _ _ (by simp)
  have g0 : Grew w ((w.alloc (.cells #[.slice (some ⟨bP, oP, none⟩) 3 cP, .int .i64 n, .int .i64 k, .slice (some ⟨bE, oE, none⟩) 2 cE, .slice (some ⟨bT, oT, none⟩) 2 cT] 24)).alloc (.cells #[.slice none 0 0, .int .i64 0, .int .i64 0, .slice none 0 0, .slice none 0 0] 24)) := ((Grew.refl w).alloc _).alloc _
  have s0 := r0.lt
  generalize ((w.alloc (.cells #[.slice (some ⟨bP, oP, none⟩) 3 cP, .int .i64 n, .int .i64 k, .slice (some ⟨bE, oE, none⟩) 2 cE, .slice (some ⟨bT, oT, none⟩) 2 cT] 24)).alloc (.cells #[.slice none 0 0, .int .i64 0, .int .i64 0, .slice none 0 0, .slice none 0 0] 24)) = w0 at *
  have y0 := k0.cell 0
  have y1 := k0.cell 1
  have y2 := k0.cell 2
  have y3 := k0.cell 3
  have y4 := k0.cell 4
  go_wp2_with fail
  refine (HC.out _ g0).mono ?_
  rintro e w1 ⟨rfl, g1⟩
  clear y0 y1 y2 y3 y4
  have k1 := k0.grew g1
  have r1 := r0.grew g1
  have G1 := g0.trans g1
  clear k0 r0 g0 g1 HC
  have y := k1.cell 4
  have u := k1.free 4
  go_wp2_with fail
  refine (HW.out _ G1).mono ?_
  rintro e w2 ⟨aN, cN, rfl, HR, g2⟩
  clear y
  have k2 := k1.grew g2
  have r2 := r1.grew g2
  have G2 := G1.trans g2
  have hsz := r1.lt
  clear k1 r1 G1 g2 HW u
  have y := k2.cell 4
  have u := k2.free 4
  go_upto_region 20 with fail
  have k3 := k2.set (o := 4) (.slice aN 2 cN)
  have r3 := r2.other (show w.heap.size + 1 ≠ w.heap.size by omega) (o := 4) (.slice aN 2 cN)
  have G3 := G2.setCell (b := w.heap.size) (o := 4) (Nat.le_refl _) (.slice aN 2 cN)
  have HR3 := Lib.hid (HR.out.set (c := w.heap.size) (o := 4) (by omega) (.slice aN 2 cN))
  clear y u k2 r2 G2 HR
  generalize w2.setCell ⟨w.heap.size, 4, none⟩ (.slice aN 2 cN) = w3 at *
  have y0 := k3.cell 0
  have y1 := k3.cell 1
  have y2 := k3.cell 2
  have y3 := k3.cell 3
  have y4 := k3.cell 4
  have x0 := r3.cell 0
  have x1 := r3.cell 1
  have x2 := r3.cell 2
  have x3 := r3.cell 3
  have x4 := r3.cell 4
  have f0 := r3.free 0
  have f1 := r3.free 1
  have f2 := r3.free 2
  have f3 := r3.free 3
  have f4 := r3.free 4
  go_wp2_with fail
  clear x0 x1 x2 x3 x4 f0 f1 f2 f3 f4 y0 y1 y2 y3 y4
  have HR4 := Lib.hid ((((((HR3.out.set (c := w.heap.size + 1) (o := 0) (by omega) (.slice (some ⟨bP, oP, none⟩) 3 cP)).set (c := w.heap.size + 1) (o := 1) (by omega) (.int .i64 n)).set (c := w.heap.size + 1) (o := 2) (by omega) (.int .i64 k)).set (c := w.heap.size + 1) (o := 3) (by omega) (.slice (some ⟨bE, oE, none⟩) 2 cE)).set (c := w.heap.size + 1) (o := 4) (by omega) (.slice aN 2 cN)))
  have ky := (((((r3.set (o := 0) (.slice (some ⟨bP, oP, none⟩) 3 cP)).set (o := 1) (.int .i64 n)).set (o := 2) (.int .i64 k)).set (o := 3) (.slice (some ⟨bE, oE, none⟩) 2 cE)).set (o := 4) (.slice aN 2 cN))
  have gy := (((((G3.setCell (b := (w.heap.size + 1)) (o := 0) (by omega) (.slice (some ⟨bP, oP, none⟩) 3 cP)).setCell (b := (w.heap.size + 1)) (o := 1) (by omega) (.int .i64 n)).setCell (b := (w.heap.size + 1)) (o := 2) (by omega) (.int .i64 k)).setCell (b := (w.heap.size + 1)) (o := 3) (by omega) (.slice (some ⟨bE, oE, none⟩) 2 cE)).setCell (b := (w.heap.size + 1)) (o := 4) (by omega) (.slice aN 2 cN))
  generalize (((((w3.setCell ⟨(w.heap.size + 1), 0, none⟩ (.slice (some ⟨bP, oP, none⟩) 3 cP)).setCell ⟨(w.heap.size + 1), 1, none⟩ (.int .i64 n)).setCell ⟨(w.heap.size + 1), 2, none⟩ (.int .i64 k)).setCell ⟨(w.heap.size + 1), 3, none⟩ (.slice (some ⟨bE, oE, none⟩) 2 cE)).setCell ⟨(w.heap.size + 1), 4, none⟩ (.slice aN 2 cN)) = wy at *
  have z0 := ky.cell 0
  have z1 := ky.cell 1
  have z2 := ky.cell 2
  have z3 := ky.cell 3
  have z4 := ky.cell 4
  exact bodyPost_ret (v := .tuple #[.agg #[.slice (some ⟨bP, oP, none⟩) 3 cP, .int .i64 n, .int .i64 k, .slice (some ⟨bE, oE, none⟩) 2 cE, .slice aN 2 cN], .bool true]) (by simp [results, Try.results14, go_sem, z0, z1, z2, z3, z4]) rfl ⟨_, rfl, Lib.hid ⟨⟨_, _, _, rfl, HB1.out.grew gy, HB2.out.grew gy, HR4.out.buf HI.out.2.2.1⟩, HI.out.2.2.2.1, HI.out.2.2.2.2⟩, g.trans gy⟩
set_option maxHeartbeats 2000000 in
theorem refStore_8 {v : Value} {s : VS} (hs : s.Ok) (x : Int) (hx0 : 0 ≤ x) (hx1 : x < 18446744073709551616) {W w : World} (hb : Pl w v s.ps) (g : Grew W w) :
    Calls Try.prog 14 #[v, .int .u64 2097156, .int .i64 4, .int .u64 x] w fun e w' => ∃ v', e = .returned (.tuple #[v', .bool true]) ∧ Hid (Pl w' v' (s.store 8 (x % 4294967296)).ps) ∧ Grew W w' := by
  have hC := fun (w1 : World) (g1 : Grew w w1) => refCheck_c (Grew.refl w1) (hb.grew g1)
  rw [chk_mk hs] at hC
  have HC := Lib.hid hC
  have hgs := g.size
  have hok := fun r y => (hs.store r y).rows
  have HOK := Lib.hid hok
  have HS := Lib.hid hs
  have h60 := and6_u64 (y := x % 4294967296) (by omega) (by omega)
  have h61 := (and_six (x % 4294967296)).bd
  clear hC hok hs
  have hi := HOK.out 8 (x % 4294967296)
  clear HOK
  have HI := Lib.hid hi
  clear hi
  clear h60 h61
  have hk0 : bits .andNot .i64 s.k 0 = s.k := by rcases HS.out.k with e | e | e | e <;> rw [e] <;> decide
  have hz : ∀ y, bits .and .i64 0 (s.e 0) = y → y = 0 := fun y h => by rw [← h]; rcases HS.out.e 0 with e | e | e | e <;> rw [e] <;> decide
  have hsrc := HS.out.e0
  by_cases hX : x % 4294967296 = 1
  · rcases hsrc with he | he | he | he
    · skip
      have hst : s.store 8 (x % 4294967296) = { s with k := s.k } := by
        have q : bits .and .i64 2 0 = 0 := by decide
        simp [VS.store, VS.back, VS.e, onlyV, hX, he, q, hk0]
        try (cases s; simp_all)
      rw [hst] at HI ⊢
      clear hst
      have HV := Lib.hid hb
      obtain ⟨vP, vE, vT, rfl, h1, h2, h3⟩ := hb.shape
      obtain ⟨bP, oP, cP, rfl, lP, hP⟩ := h1.at (by simp)
      obtain ⟨bE, oE, cE, rfl, lE, hE⟩ := h2.at (by simp)
      obtain ⟨bT, oT, cT, rfl, lT, hT⟩ := h3.at (by simp)
      have HB1 := Lib.hid h1
      have HB2 := Lib.hid h2
      have HB3 := Lib.hid h3
      clear h1 h2 h3 hb
      obtain ⟨p1, p2, n, k, e0, t0, e1, t1⟩ := s
      have cP0 : w.cell? ⟨bP, oP, none⟩ = some (.int .i64 0) := hP 0 (by simp)
      have cP1 : w.cell? ⟨bP, oP + 1, none⟩ = some (.int .i64 p1) := hP 1 (by simp)
      have cP2 : w.cell? ⟨bP, oP + 2, none⟩ = some (.int .i64 p2) := hP 2 (by simp)
      have cE0 : w.cell? ⟨bE, oE, none⟩ = some (.int .i64 e0) := hE 0 (by simp)
      have cE1 : w.cell? ⟨bE, oE + 1, none⟩ = some (.int .i64 e1) := hE 1 (by simp)
      have cT0 : w.cell? ⟨bT, oT, none⟩ = some (.int .i64 t0) := hT 0 (by simp)
      have cT1 : w.cell? ⟨bT, oT + 1, none⟩ = some (.int .i64 t1) := hT 1 (by simp)
      clear hP hE hT
      dsimp only [VS.ps] at HV HB1 HB2 HB3 ⊢
      simp only [List.length_cons, List.length_nil, Nat.zero_add, Nat.reduceAdd] at HV HB1 HB2 HB3 ⊢
      dsimp only at he
      subst he
      clear hk0 hz
      try clear hsrc
      have q : bits .and .i64 0 2 = 0 := by decide
      go_enter Try.func14, Try.ntmps14
      go_upto_region 1 with fail
      have k0 : Blk ((w.alloc (.cells #[.slice (some ⟨bP, oP, none⟩) 3 cP, .int .i64 n, .int .i64 k, .slice (some ⟨bE, oE, none⟩) 2 cE, .slice (some ⟨bT, oT, none⟩) 2 cT] 24)).alloc (.cells #[.slice none 0 0, .int .i64 0, .int .i64 0, .slice none 0 0, .slice none 0 0] 24)) w.heap.size #[.slice (some ⟨bP, oP, none⟩) 3 cP, .int .i64 n, .int .i64 k, .slice (some ⟨bE, oE, none⟩) 2 cE, .slice (some ⟨bT, oT, none⟩) 2 cT] 24 := (Blk.new _ _ _ _ rfl).alloc _
      have r0 : Blk ((w.alloc (.cells #[.slice (some ⟨bP, oP, none⟩) 3 cP, .int .i64 n, .int .i64 k, .slice (some ⟨bE, oE, none⟩) 2 cE, .slice (some ⟨bT, oT, none⟩) 2 cT] 24)).alloc (.cells #[.slice none 0 0, .int .i64 0, .int .i64 0, .slice none 0 0, .slice none 0 0] 24)) (w.heap.size + 1) #[.slice none 0 0, .int .i64 0, .int .i64 0, .slice none 0 0, .slice none 0 0] 24 := Blk.new _ _ _ _ (by simp)
      have g0 : Grew w ((w.alloc (.cells #[.slice (some ⟨bP, oP, none⟩) 3 cP, .int .i64 n, .int .i64 k, .slice (some ⟨bE, oE, none⟩) 2 cE, .slice (some ⟨bT, oT, none⟩) 2 cT] 24)).alloc (.cells #[.slice none 0 0, .int .i64 0, .int .i64 0, .slice none 0 0, .slice none 0 0] 24)) := ((Grew.refl w).alloc _).alloc _
      have s0 := r0.lt
      generalize ((w.alloc (.cells #[.slice (some ⟨bP, oP, none⟩) 3 cP, .int .i64 n, .int .i64 k, .slice (some ⟨bE, oE, none⟩) 2 cE, .slice (some ⟨bT, oT, none⟩) 2 cT] 24)).alloc (.cells #[.slice none 0 0, .int .i64 0, .int .i64 0, .slice none 0 0, .slice none 0 0] 24)) = w0 at *
      have y0 := k0.cell 0
      have y1 := k0.cell 1
      have y2 := k0.cell 2
      have y3 := k0.cell 3
      have y4 := k0.cell 4
      go_wp2_with fail
      refine (HC.out _ g0).mono ?_
      rintro e w1 ⟨rfl, g1⟩
      clear y0 y1 y2 y3 y4
      have k1 := k0.grew g1
      have r1 := r0.grew g1
      have G1 := g0.trans g1
      clear k0 r0 g0 g1 HC
      have y0 := k1.cell 0
      have y1 := k1.cell 1
      have y2 := k1.cell 2
      have y3 := k1.cell 3
      have y4 := k1.cell 4
      have dE0 := ((gcell G1).1 bE (oE) lE).trans cE0
      have x0 := r1.cell 0
      have x1 := r1.cell 1
      have x2 := r1.cell 2
      have x3 := r1.cell 3
      have x4 := r1.cell 4
      have f0 := r1.free 0
      have f1 := r1.free 1
      have f2 := r1.free 2
      have f3 := r1.free 3
      have f4 := r1.free 4
      go_wp2_with fail
      clear x0 x1 x2 x3 x4 f0 f1 f2 f3 f4 y0 y1 y2 y3 y4
      have ky := (((((r1.set (o := 0) (.slice (some ⟨bP, oP, none⟩) 3 cP)).set (o := 1) (.int .i64 n)).set (o := 2) (.int .i64 k)).set (o := 3) (.slice (some ⟨bE, oE, none⟩) 2 cE)).set (o := 4) (.slice (some ⟨bT, oT, none⟩) 2 cT))
      have gy := (((((G1.setCell (b := (w.heap.size + 1)) (o := 0) (by omega) (.slice (some ⟨bP, oP, none⟩) 3 cP)).setCell (b := (w.heap.size + 1)) (o := 1) (by omega) (.int .i64 n)).setCell (b := (w.heap.size + 1)) (o := 2) (by omega) (.int .i64 k)).setCell (b := (w.heap.size + 1)) (o := 3) (by omega) (.slice (some ⟨bE, oE, none⟩) 2 cE)).setCell (b := (w.heap.size + 1)) (o := 4) (by omega) (.slice (some ⟨bT, oT, none⟩) 2 cT))
      generalize (((((w1.setCell ⟨(w.heap.size + 1), 0, none⟩ (.slice (some ⟨bP, oP, none⟩) 3 cP)).setCell ⟨(w.heap.size + 1), 1, none⟩ (.int .i64 n)).setCell ⟨(w.heap.size + 1), 2, none⟩ (.int .i64 k)).setCell ⟨(w.heap.size + 1), 3, none⟩ (.slice (some ⟨bE, oE, none⟩) 2 cE)).setCell ⟨(w.heap.size + 1), 4, none⟩ (.slice (some ⟨bT, oT, none⟩) 2 cT)) = wy at *
      have z0 := ky.cell 0
      have z1 := ky.cell 1
      have z2 := ky.cell 2
      have z3 := ky.cell 3
      have z4 := ky.cell 4
      exact bodyPost_ret (v := .tuple #[.agg #[.slice (some ⟨bP, oP, none⟩) 3 cP, .int .i64 n, .int .i64 k, .slice (some ⟨bE, oE, none⟩) 2 cE, .slice (some ⟨bT, oT, none⟩) 2 cT], .bool true]) (by simp [results, Try.results14, go_sem, z0, z1, z2, z3, z4]) rfl ⟨_, rfl, Lib.hid ⟨⟨_, _, _, rfl, HB1.out.grew gy, HB2.out.grew gy, HB3.out.grew gy⟩, HI.out.2.2.2.1, HI.out.2.2.2.2⟩, g.trans gy⟩
    · skip
      have hst : s.store 8 (x % 4294967296) = { s with k := bits .andNot .i64 s.k 2 } := by
        have q : bits .and .i64 2 2 = 2 := by decide
        simp [VS.store, VS.back, VS.e, onlyV, hX, he, q, hk0]
        try (cases s; simp_all)
      rw [hst] at HI ⊢
      clear hst
      have HV := Lib.hid hb
      obtain ⟨vP, vE, vT, rfl, h1, h2, h3⟩ := hb.shape
      obtain ⟨bP, oP, cP, rfl, lP, hP⟩ := h1.at (by simp)
      obtain ⟨bE, oE, cE, rfl, lE, hE⟩ := h2.at (by simp)
      obtain ⟨bT, oT, cT, rfl, lT, hT⟩ := h3.at (by simp)
      have HB1 := Lib.hid h1
      have HB2 := Lib.hid h2
      have HB3 := Lib.hid h3
      clear h1 h2 h3 hb
      obtain ⟨p1, p2, n, k, e0, t0, e1, t1⟩ := s
      have cP0 : w.cell? ⟨bP, oP, none⟩ = some (.int .i64 0) := hP 0 (by simp)
      have cP1 : w.cell? ⟨bP, oP + 1, none⟩ = some (.int .i64 p1) := hP 1 (by simp)
      have cP2 : w.cell? ⟨bP, oP + 2, none⟩ = some (.int .i64 p2) := hP 2 (by simp)
      have cE0 : w.cell? ⟨bE, oE, none⟩ = some (.int .i64 e0) := hE 0 (by simp)
      have cE1 : w.cell? ⟨bE, oE + 1, none⟩ = some (.int .i64 e1) := hE 1 (by simp)
      have cT0 : w.cell? ⟨bT, oT, none⟩ = some (.int .i64 t0) := hT 0 (by simp)
      have cT1 : w.cell? ⟨bT, oT + 1, none⟩ = some (.int .i64 t1) := hT 1 (by simp)
      clear hP hE hT
      dsimp only [VS.ps] at HV HB1 HB2 HB3 ⊢
      simp only [List.length_cons, List.length_nil, Nat.zero_add, Nat.reduceAdd] at HV HB1 HB2 HB3 ⊢
      dsimp only at he
      subst he
      clear hk0 hz
      try clear hsrc
      have q : bits .and .i64 2 2 = 2 := by decide
      go_enter Try.func14, Try.ntmps14
      go_upto_region 1 with fail
      have k0 : Blk ((w.alloc (.cells #[.slice (some ⟨bP, oP, none⟩) 3 cP, .int .i64 n, .int .i64 k, .slice (some ⟨bE, oE, none⟩) 2 cE, .slice (some ⟨bT, oT, none⟩) 2 cT] 24)).alloc (.cells #[.slice none 0 0, .int .i64 0, .int .i64 0, .slice none 0 0, .slice none 0 0] 24)) w.heap.size #[.slice (some ⟨bP, oP, none⟩) 3 cP, .int .i64 n, .int .i64 k, .slice (some ⟨bE, oE, none⟩) 2 cE, .slice (some ⟨bT, oT, none⟩) 2 cT] 24 := (Blk.new _ _ _ _ rfl).alloc _
      have r0 : Blk ((w.alloc (.cells #[.slice (some ⟨bP, oP, none⟩) 3 cP, .int .i64 n, .int .i64 k, .slice (some ⟨bE, oE, none⟩) 2 cE, .slice (some ⟨bT, oT, none⟩) 2 cT] 24)).alloc (.cells #[.slice none 0 0, .int .i64 0, .int .i64 0, .slice none 0 0, .slice none 0 0] 24)) (w.heap.size + 1) #[.slice none 0 0, .int .i64 0, .int .i64 0, .slice none 0 0, .slice none 0 0] 24 := Blk.new _ _ _ _ (by simp)
      have g0 : Grew w ((w.alloc (.cells #[.slice (some ⟨bP, oP, none⟩) 3 cP, .int .i64 n, .int .i64 k, .slice (some ⟨bE, oE, none⟩) 2 cE, .slice (some ⟨bT, oT, none⟩) 2 cT] 24)).alloc (.cells #[.slice none 0 0, .int .i64 0, .int .i64 0, .slice none 0 0, .slice none 0 0] 24)) := ((Grew.refl w).alloc _).alloc _
      have s0 := r0.lt
      generalize ((w.alloc (.cells #[.slice (some ⟨bP, oP, none⟩) 3 cP, .int .i64 n, .int .i64 k, .slice (some ⟨bE, oE, none⟩) 2 cE, .slice (some ⟨bT, oT, none⟩) 2 cT] 24)).alloc (.cells #[.slice none 0 0, .int .i64 0, .int .i64 0, .slice none 0 0, .slice none 0 0] 24)) = w0 at *
      have y0 := k0.cell 0
      have y1 := k0.cell 1
      have y2 := k0.cell 2
      have y3 := k0.cell 3
      have y4 := k0.cell 4
      go_wp2_with fail
      refine (HC.out _ g0).mono ?_
      rintro e w1 ⟨rfl, g1⟩
      clear y0 y1 y2 y3 y4
      have k1 := k0.grew g1
      have r1 := r0.grew g1
      have G1 := g0.trans g1
      clear k0 r0 g0 g1 HC
      have y0 := k1.cell 0
      have y1 := k1.cell 1
      have y2 := k1.cell 2
      have y3 := k1.cell 3
      have y4 := k1.cell 4
      have dE0 := ((gcell G1).1 bE (oE) lE).trans cE0
      have u2 := k1.free 2
      go_upto_region 20 with fail
      have k3 := k1.set (o := 2) (.int .i64 (bits .andNot .i64 k 2))
      have r3 := r1.other (show w.heap.size + 1 ≠ w.heap.size by omega) (o := 2) (.int .i64 (bits .andNot .i64 k 2))
      have G3 := G1.setCell (b := w.heap.size) (o := 2) (Nat.le_refl _) (.int .i64 (bits .andNot .i64 k 2))
      clear u2 k1 r1 G1 dE0
      clear y0 y1 y2 y3 y4
      generalize w1.setCell ⟨w.heap.size, 2, none⟩ (.int .i64 (bits .andNot .i64 k 2)) = w3 at *
      have y0 := k3.cell 0
      have y1 := k3.cell 1
      have y2 := k3.cell 2
      have y3 := k3.cell 3
      have y4 := k3.cell 4
      have x0 := r3.cell 0
      have x1 := r3.cell 1
      have x2 := r3.cell 2
      have x3 := r3.cell 3
      have x4 := r3.cell 4
      have f0 := r3.free 0
      have f1 := r3.free 1
      have f2 := r3.free 2
      have f3 := r3.free 3
      have f4 := r3.free 4
      go_wp2_with fail
      clear x0 x1 x2 x3 x4 f0 f1 f2 f3 f4 y0 y1 y2 y3 y4
      have ky := (((((r3.set (o := 0) (.slice (some ⟨bP, oP, none⟩) 3 cP)).set (o := 1) (.int .i64 n)).set (o := 2) (.int .i64 (bits .andNot .i64 k 2))).set (o := 3) (.slice (some ⟨bE, oE, none⟩) 2 cE)).set (o := 4) (.slice (some ⟨bT, oT, none⟩) 2 cT))
      have gy := (((((G3.setCell (b := (w.heap.size + 1)) (o := 0) (by omega) (.slice (some ⟨bP, oP, none⟩) 3 cP)).setCell (b := (w.heap.size + 1)) (o := 1) (by omega) (.int .i64 n)).setCell (b := (w.heap.size + 1)) (o := 2) (by omega) (.int .i64 (bits .andNot .i64 k 2))).setCell (b := (w.heap.size + 1)) (o := 3) (by omega) (.slice (some ⟨bE, oE, none⟩) 2 cE)).setCell (b := (w.heap.size + 1)) (o := 4) (by omega) (.slice (some ⟨bT, oT, none⟩) 2 cT))
      generalize (((((w3.setCell ⟨(w.heap.size + 1), 0, none⟩ (.slice (some ⟨bP, oP, none⟩) 3 cP)).setCell ⟨(w.heap.size + 1), 1, none⟩ (.int .i64 n)).setCell ⟨(w.heap.size + 1), 2, none⟩ (.int .i64 (bits .andNot .i64 k 2))).setCell ⟨(w.heap.size + 1), 3, none⟩ (.slice (some ⟨bE, oE, none⟩) 2 cE)).setCell ⟨(w.heap.size + 1), 4, none⟩ (.slice (some ⟨bT, oT, none⟩) 2 cT)) = wy at *
      have z0 := ky.cell 0
      have z1 := ky.cell 1
      have z2 := ky.cell 2
      have z3 := ky.cell 3
      have z4 := ky.cell 4
      exact bodyPost_ret (v := .tuple #[.agg #[.slice (some ⟨bP, oP, none⟩) 3 cP, .int .i64 n, .int .i64 (bits .andNot .i64 k 2), .slice (some ⟨bE, oE, none⟩) 2 cE, .slice (some ⟨bT, oT, none⟩) 2 cT], .bool true]) (by simp [results, Try.results14, go_sem, z0, z1, z2, z3, z4]) rfl ⟨_, rfl, Lib.hid ⟨⟨_, _, _, rfl, HB1.out.grew gy, HB2.out.grew gy, HB3.out.grew gy⟩, HI.out.2.2.2.1, HI.out.2.2.2.2⟩, g.trans gy⟩
    · skip
      have hst : s.store 8 (x % 4294967296) = { s with k := s.k } := by
        have q : bits .and .i64 2 4 = 0 := by decide
        simp [VS.store, VS.back, VS.e, onlyV, hX, he, q, hk0]
        try (cases s; simp_all)
      rw [hst] at HI ⊢
      clear hst
      have HV := Lib.hid hb
      obtain ⟨vP, vE, vT, rfl, h1, h2, h3⟩ := hb.shape
      obtain ⟨bP, oP, cP, rfl, lP, hP⟩ := h1.at (by simp)
      obtain ⟨bE, oE, cE, rfl, lE, hE⟩ := h2.at (by simp)
      obtain ⟨bT, oT, cT, rfl, lT, hT⟩ := h3.at (by simp)
      have HB1 := Lib.hid h1
      have HB2 := Lib.hid h2
      have HB3 := Lib.hid h3
      clear h1 h2 h3 hb
      obtain ⟨p1, p2, n, k, e0, t0, e1, t1⟩ := s
      have cP0 : w.cell? ⟨bP, oP, none⟩ = some (.int .i64 0) := hP 0 (by simp)
      have cP1 : w.cell? ⟨bP, oP + 1, none⟩ = some (.int .i64 p1) := hP 1 (by simp)
      have cP2 : w.cell? ⟨bP, oP + 2, none⟩ = some (.int .i64 p2) := hP 2 (by simp)
      have cE0 : w.cell? ⟨bE, oE, none⟩ = some (.int .i64 e0) := hE 0 (by simp)
      have cE1 : w.cell? ⟨bE, oE + 1, none⟩ = some (.int .i64 e1) := hE 1 (by simp)
      have cT0 : w.cell? ⟨bT, oT, none⟩ = some (.int .i64 t0) := hT 0 (by simp)
      have cT1 : w.cell? ⟨bT, oT + 1, none⟩ = some (.int .i64 t1) := hT 1 (by simp)
      clear hP hE hT
      dsimp only [VS.ps] at HV HB1 HB2 HB3 ⊢
      simp only [List.length_cons, List.length_nil, Nat.zero_add, Nat.reduceAdd] at HV HB1 HB2 HB3 ⊢
      dsimp only at he
      subst he
      clear hk0 hz
      try clear hsrc
      have q : bits .and .i64 4 2 = 0 := by decide
      go_enter Try.func14, Try.ntmps14
      go_upto_region 1 with fail
      have k0 : Blk ((w.alloc (.cells #[.slice (some ⟨bP, oP, none⟩) 3 cP, .int .i64 n, .int .i64 k, .slice (some ⟨bE, oE, none⟩) 2 cE, .slice (some ⟨bT, oT, none⟩) 2 cT] 24)).alloc (.cells #[.slice none 0 0, .int .i64 0, .int .i64 0, .slice none 0 0, .slice none 0 0] 24)) w.heap.size #[.slice (some ⟨bP, oP, none⟩) 3 cP, .int .i64 n, .int .i64 k, .slice (some ⟨bE, oE, none⟩) 2 cE, .slice (some ⟨bT, oT, none⟩) 2 cT] 24 := (Blk.new _ _ _ _ rfl).alloc _
      have r0 : Blk ((w.alloc (.cells #[.slice (some ⟨bP, oP, none⟩) 3 cP, .int .i64 n, .int .i64 k, .slice (some ⟨bE, oE, none⟩) 2 cE, .slice (some ⟨bT, oT, none⟩) 2 cT] 24)).alloc (.cells #[.slice none 0 0, .int .i64 0, .int .i64 0, .slice none 0 0, .slice none 0 0] 24)) (w.heap.size + 1) #[.slice none 0 0, .int .i64 0, .int .i64 0, .slice none 0 0, .slice none 0 0] 24 := Blk.new _ _ _ _ (by simp)
      have g0 : Grew w ((w.alloc (.cells #[.slice (some ⟨bP, oP, none⟩) 3 cP, .int .i64 n, .int .i64 k, .slice (some ⟨bE, oE, none⟩) 2 cE, .slice (some ⟨bT, oT, none⟩) 2 cT] 24)).alloc (.cells #[.slice none 0 0, .int .i64 0, .int .i64 0, .slice none 0 0, .slice none 0 0] 24)) := ((Grew.refl w).alloc _).alloc _
      have s0 := r0.lt
      generalize ((w.alloc (.cells #[.slice (some ⟨bP, oP, none⟩) 3 cP, .int .i64 n, .int .i64 k, .slice (some ⟨bE, oE, none⟩) 2 cE, .slice (some ⟨bT, oT, none⟩) 2 cT] 24)).alloc (.cells #[.slice none 0 0, .int .i64 0, .int .i64 0, .slice none 0 0, .slice none 0 0] 24)) = w0 at *
      have y0 := k0.cell 0
      have y1 := k0.cell 1
      have y2 := k0.cell 2
      have y3 := k0.cell 3
      have y4 := k0.cell 4
      go_wp2_with fail
      refine (HC.out _ g0).mono ?_
      rintro e w1 ⟨rfl, g1⟩
      clear y0 y1 y2 y3 y4
      have k1 := k0.grew g1
      have r1 := r0.grew g1
      have G1 := g0.trans g1
      clear k0 r0 g0 g1 HC
      have y0 := k1.cell 0
      have y1 := k1.cell 1
      have y2 := k1.cell 2
      have y3 := k1.cell 3
      have y4 := k1.cell 4
      have dE0 := ((gcell G1).1 bE (oE) lE).trans cE0
      have x0 := r1.cell 0
      have x1 := r1.cell 1
      have x2 := r1.cell 2
      have x3 := r1.cell 3
      have x4 := r1.cell 4
      have f0 := r1.free 0
      have f1 := r1.free 1
      have f2 := r1.free 2
      have f3 := r1.free 3
      have f4 := r1.free 4
      go_wp2_with fail
      clear x0 x1 x2 x3 x4 f0 f1 f2 f3 f4 y0 y1 y2 y3 y4
      have ky := (((((r1.set (o := 0) (.slice (some ⟨bP, oP, none⟩) 3 cP)).set (o := 1) (.int .i64 n)).set (o := 2) (.int .i64 k)).set (o := 3) (.slice (some ⟨bE, oE, none⟩) 2 cE)).set (o := 4) (.slice (some ⟨bT, oT, none⟩) 2 cT))
      have gy := (((((G1.setCell (b := (w.heap.size + 1)) (o := 0) (by omega) (.slice (some ⟨bP, oP, none⟩) 3 cP)).setCell (b := (w.heap.size + 1)) (o := 1) (by omega) (.int .i64 n)).setCell (b := (w.heap.size + 1)) (o := 2) (by omega) (.int .i64 k)).setCell (b := (w.heap.size + 1)) (o := 3) (by omega) (.slice (some ⟨bE, oE, none⟩) 2 cE)).setCell (b := (w.heap.size + 1)) (o := 4) (by omega) (.slice (some ⟨bT, oT, none⟩) 2 cT))
      generalize (((((w1.setCell ⟨(w.heap.size + 1), 0, none⟩ (.slice (some ⟨bP, oP, none⟩) 3 cP)).setCell ⟨(w.heap.size + 1), 1, none⟩ (.int .i64 n)).setCell ⟨(w.heap.size + 1), 2, none⟩ (.int .i64 k)).setCell ⟨(w.heap.size + 1), 3, none⟩ (.slice (some ⟨bE, oE, none⟩) 2 cE)).setCell ⟨(w.heap.size + 1), 4, none⟩ (.slice (some ⟨bT, oT, none⟩) 2 cT)) = wy at *
      have z0 := ky.cell 0
      have z1 := ky.cell 1
      have z2 := ky.cell 2
      have z3 := ky.cell 3
      have z4 := ky.cell 4
      exact bodyPost_ret (v := .tuple #[.agg #[.slice (some ⟨bP, oP, none⟩) 3 cP, .int .i64 n, .int .i64 k, .slice (some ⟨bE, oE, none⟩) 2 cE, .slice (some ⟨bT, oT, none⟩) 2 cT], .bool true]) (by simp [results, Try.results14, go_sem, z0, z1, z2, z3, z4]) rfl ⟨_, rfl, Lib.hid ⟨⟨_, _, _, rfl, HB1.out.grew gy, HB2.out.grew gy, HB3.out.grew gy⟩, HI.out.2.2.2.1, HI.out.2.2.2.2⟩, g.trans gy⟩
    · skip
      have hst : s.store 8 (x % 4294967296) = { s with k := bits .andNot .i64 s.k 2 } := by
        have q : bits .and .i64 2 6 = 2 := by decide
        simp [VS.store, VS.back, VS.e, onlyV, hX, he, q, hk0]
        try (cases s; simp_all)
      rw [hst] at HI ⊢
      clear hst
      have HV := Lib.hid hb
      obtain ⟨vP, vE, vT, rfl, h1, h2, h3⟩ := hb.shape
      obtain ⟨bP, oP, cP, rfl, lP, hP⟩ := h1.at (by simp)
      obtain ⟨bE, oE, cE, rfl, lE, hE⟩ := h2.at (by simp)
      obtain ⟨bT, oT, cT, rfl, lT, hT⟩ := h3.at (by simp)
      have HB1 := Lib.hid h1
      have HB2 := Lib.hid h2
      have HB3 := Lib.hid h3
      clear h1 h2 h3 hb
      obtain ⟨p1, p2, n, k, e0, t0, e1, t1⟩ := s
      have cP0 : w.cell? ⟨bP, oP, none⟩ = some (.int .i64 0) := hP 0 (by simp)
      have cP1 : w.cell? ⟨bP, oP + 1, none⟩ = some (.int .i64 p1) := hP 1 (by simp)
      have cP2 : w.cell? ⟨bP, oP + 2, none⟩ = some (.int .i64 p2) := hP 2 (by simp)
      have cE0 : w.cell? ⟨bE, oE, none⟩ = some (.int .i64 e0) := hE 0 (by simp)
      have cE1 : w.cell? ⟨bE, oE + 1, none⟩ = some (.int .i64 e1) := hE 1 (by simp)
      have cT0 : w.cell? ⟨bT, oT, none⟩ = some (.int .i64 t0) := hT 0 (by simp)
      have cT1 : w.cell? ⟨bT, oT + 1, none⟩ = some (.int .i64 t1) := hT 1 (by simp)
      clear hP hE hT
      dsimp only [VS.ps] at HV HB1 HB2 HB3 ⊢
      simp only [List.length_cons, List.length_nil, Nat.zero_add, Nat.reduceAdd] at HV HB1 HB2 HB3 ⊢
      dsimp only at he
      subst he
      clear hk0 hz
      try clear hsrc
      have q : bits .and .i64 6 2 = 2 := by decide
      go_enter Try.func14, Try.ntmps14
      go_upto_region 1 with fail
      have k0 : Blk ((w.alloc (.cells #[.slice (some ⟨bP, oP, none⟩) 3 cP, .int .i64 n, .int .i64 k, .slice (some ⟨bE, oE, none⟩) 2 cE, .slice (some ⟨bT, oT, none⟩) 2 cT] 24)).alloc (.cells #[.slice none 0 0, .int .i64 0, .int .i64 0, .slice none 0 0, .slice none 0 0] 24)) w.heap.size #[.slice (some ⟨bP, oP, none⟩) 3 cP, .int .i64 n, .int .i64 k, .slice (some ⟨bE, oE, none⟩) 2 cE, .slice (some ⟨bT, oT, none⟩) 2 cT] 24 := (Blk.new _ _ _ _ rfl).alloc _
      have r0 : Blk ((w.alloc (.cells #[.slice (some ⟨bP, oP, none⟩) 3 cP, .int .i64 n, .int .i64 k, .slice (some ⟨bE, oE, none⟩) 2 cE, .slice (some ⟨bT, oT, none⟩) 2 cT] 24)).alloc (.cells #[.slice none 0 0, .int .i64 0, .int .i64 0, .slice none 0 0, .slice none 0 0] 24)) (w.heap.size + 1) #[.slice none 0 0, .int .i64 0, .int .i64 0, .slice none 0 0, .slice none 0 0] 24 := Blk.new _ _ _ _ (by simp)
      have g0 : Grew w ((w.alloc (.cells #[.slice (some ⟨bP, oP, none⟩) 3 cP, .int .i64 n, .int .i64 k, .slice (some ⟨bE, oE, none⟩) 2 cE, .slice (some ⟨bT, oT, none⟩) 2 cT] 24)).alloc (.cells #[.slice none 0 0, .int .i64 0, .int .i64 0, .slice none 0 0, .slice none 0 0] 24)) := ((Grew.refl w).alloc _).alloc _
      have s0 := r0.lt
      generalize ((w.alloc (.cells #[.slice (some ⟨bP, oP, none⟩) 3 cP, .int .i64 n, .int .i64 k, .slice (some ⟨bE, oE, none⟩) 2 cE, .slice (some ⟨bT, oT, none⟩) 2 cT] 24)).alloc (.cells #[.slice none 0 0, .int .i64 0, .int .i64 0, .slice none 0 0, .slice none 0 0] 24)) = w0 at *
      have y0 := k0.cell 0
      have y1 := k0.cell 1
      have y2 := k0.cell 2
      have y3 := k0.cell 3
      have y4 := k0.cell 4
      go_wp2_with fail
      refine (HC.out _ g0).mono ?_
      rintro e w1 ⟨rfl, g1⟩
      clear y0 y1 y2 y3 y4
      have k1 := k0.grew g1
      have r1 := r0.grew g1
      have G1 := g0.trans g1
      clear k0 r0 g0 g1 HC
      have y0 := k1.cell 0
      have y1 := k1.cell 1
      have y2 := k1.cell 2
      have y3 := k1.cell 3
      have y4 := k1.cell 4
      have dE0 := ((gcell G1).1 bE (oE) lE).trans cE0
      have u2 := k1.free 2
      go_upto_region 20 with fail
      have k3 := k1.set (o := 2) (.int .i64 (bits .andNot .i64 k 2))
      have r3 := r1.other (show w.heap.size + 1 ≠ w.heap.size by omega) (o := 2) (.int .i64 (bits .andNot .i64 k 2))
      have G3 := G1.setCell (b := w.heap.size) (o := 2) (Nat.le_refl _) (.int .i64 (bits .andNot .i64 k 2))
      clear u2 k1 r1 G1 dE0
      clear y0 y1 y2 y3 y4
      generalize w1.setCell ⟨w.heap.size, 2, none⟩ (.int .i64 (bits .andNot .i64 k 2)) = w3 at *
      have y0 := k3.cell 0
      have y1 := k3.cell 1
      have y2 := k3.cell 2
      have y3 := k3.cell 3
      have y4 := k3.cell 4
      have x0 := r3.cell 0
      have x1 := r3.cell 1
      have x2 := r3.cell 2
      have x3 := r3.cell 3
      have x4 := r3.cell 4
      have f0 := r3.free 0
      have f1 := r3.free 1
      have f2 := r3.free 2
      have f3 := r3.free 3
      have f4 := r3.free 4
      go_wp2_with fail
      clear x0 x1 x2 x3 x4 f0 f1 f2 f3 f4 y0 y1 y2 y3 y4
      have ky := (((((r3.set (o := 0) (.slice (some ⟨bP, oP, none⟩) 3 cP)).set (o := 1) (.int .i64 n)).set (o := 2) (.int .i64 (bits .andNot .i64 k 2))).set (o := 3) (.slice (some ⟨bE, oE, none⟩) 2 cE)).set (o := 4) (.slice (some ⟨bT, oT, none⟩) 2 cT))
      have gy := (((((G3.setCell (b := (w.heap.size + 1)) (o := 0) (by omega) (.slice (some ⟨bP, oP, none⟩) 3 cP)).setCell (b := (w.heap.size + 1)) (o := 1) (by omega) (.int .i64 n)).setCell (b := (w.heap.size + 1)) (o := 2) (by omega) (.int .i64 (bits .andNot .i64 k 2))).setCell (b := (w.heap.size + 1)) (o := 3) (by omega) (.slice (some ⟨bE, oE, none⟩) 2 cE)).setCell (b := (w.heap.size + 1)) (o := 4) (by omega) (.slice (some ⟨bT, oT, none⟩) 2 cT))
      generalize (((((w3.setCell ⟨(w.heap.size + 1), 0, none⟩ (.slice (some ⟨bP, oP, none⟩) 3 cP)).setCell ⟨(w.heap.size + 1), 1, none⟩ (.int .i64 n)).setCell ⟨(w.heap.size + 1), 2, none⟩ (.int .i64 (bits .andNot .i64 k 2))).setCell ⟨(w.heap.size + 1), 3, none⟩ (.slice (some ⟨bE, oE, none⟩) 2 cE)).setCell ⟨(w.heap.size + 1), 4, none⟩ (.slice (some ⟨bT, oT, none⟩) 2 cT)) = wy at *
      have z0 := ky.cell 0
      have z1 := ky.cell 1
      have z2 := ky.cell 2
      have z3 := ky.cell 3
      have z4 := ky.cell 4
      exact bodyPost_ret (v := .tuple #[.agg #[.slice (some ⟨bP, oP, none⟩) 3 cP, .int .i64 n, .int .i64 (bits .andNot .i64 k 2), .slice (some ⟨bE, oE, none⟩) 2 cE, .slice (some ⟨bT, oT, none⟩) 2 cT], .bool true]) (by simp [results, Try.results14, go_sem, z0, z1, z2, z3, z4]) rfl ⟨_, rfl, Lib.hid ⟨⟨_, _, _, rfl, HB1.out.grew gy, HB2.out.grew gy, HB3.out.grew gy⟩, HI.out.2.2.2.1, HI.out.2.2.2.2⟩, g.trans gy⟩
  have m1 : (x % 4294967296 == 1) = false := by simpa using hX
  have w1 := hX
  clear hX
  by_cases hX : x % 4294967296 = 2
  · rcases hsrc with he | he | he | he
    · skip
      have hst : s.store 8 (x % 4294967296) = { s with k := s.k } := by
        have q : bits .and .i64 4 0 = 0 := by decide
        simp [VS.store, VS.back, VS.e, onlyV, hX, he, q, hk0]
        try (cases s; simp_all)
      rw [hst] at HI ⊢
      clear hst
      have HV := Lib.hid hb
      obtain ⟨vP, vE, vT, rfl, h1, h2, h3⟩ := hb.shape
      obtain ⟨bP, oP, cP, rfl, lP, hP⟩ := h1.at (by simp)
      obtain ⟨bE, oE, cE, rfl, lE, hE⟩ := h2.at (by simp)
      obtain ⟨bT, oT, cT, rfl, lT, hT⟩ := h3.at (by simp)
      have HB1 := Lib.hid h1
      have HB2 := Lib.hid h2
      have HB3 := Lib.hid h3
      clear h1 h2 h3 hb
      obtain ⟨p1, p2, n, k, e0, t0, e1, t1⟩ := s
      have cP0 : w.cell? ⟨bP, oP, none⟩ = some (.int .i64 0) := hP 0 (by simp)
      have cP1 : w.cell? ⟨bP, oP + 1, none⟩ = some (.int .i64 p1) := hP 1 (by simp)
      have cP2 : w.cell? ⟨bP, oP + 2, none⟩ = some (.int .i64 p2) := hP 2 (by simp)
      have cE0 : w.cell? ⟨bE, oE, none⟩ = some (.int .i64 e0) := hE 0 (by simp)
      have cE1 : w.cell? ⟨bE, oE + 1, none⟩ = some (.int .i64 e1) := hE 1 (by simp)
      have cT0 : w.cell? ⟨bT, oT, none⟩ = some (.int .i64 t0) := hT 0 (by simp)
      have cT1 : w.cell? ⟨bT, oT + 1, none⟩ = some (.int .i64 t1) := hT 1 (by simp)
      clear hP hE hT
      dsimp only [VS.ps] at HV HB1 HB2 HB3 ⊢
      simp only [List.length_cons, List.length_nil, Nat.zero_add, Nat.reduceAdd] at HV HB1 HB2 HB3 ⊢
      dsimp only at he
      subst he
      clear hk0 hz
      try clear hsrc
      have q : bits .and .i64 0 4 = 0 := by decide
      go_enter Try.func14, Try.ntmps14
      go_upto_region 1 with fail
      have k0 : Blk ((w.alloc (.cells #[.slice (some ⟨bP, oP, none⟩) 3 cP, .int .i64 n, .int .i64 k, .slice (some ⟨bE, oE, none⟩) 2 cE, .slice (some ⟨bT, oT, none⟩) 2 cT] 24)).alloc (.cells #[.slice none 0 0, .int .i64 0, .int .i64 0, .slice none 0 0, .slice none 0 0] 24)) w.heap.size #[.slice (some ⟨bP, oP, none⟩) 3 cP, .int .i64 n, .int .i64 k, .slice (some ⟨bE, oE, none⟩) 2 cE, .slice (some ⟨bT, oT, none⟩) 2 cT] 24 := (Blk.new _ _ _ _ rfl).alloc _
      have r0 : Blk ((w.alloc (.cells #[.slice (some ⟨bP, oP, none⟩) 3 cP, .int .i64 n, .int .i64 k, .slice (some ⟨bE, oE, none⟩) 2 cE, .slice (some ⟨bT, oT, none⟩) 2 cT] 24)).alloc (.cells #[.slice none 0 0, .int .i64 0, .int .i64 0, .slice none 0 0, .slice none 0 0] 24)) (w.heap.size + 1) #[.slice none 0 0, .int .i64 0, .int .i64 0, .slice none 0 0, .slice none 0 0] 24 := Blk.new _ _ _ _ (by simp)
      have g0 : Grew w ((w.alloc (.cells #[.slice (some ⟨bP, oP, none⟩) 3 cP, .int .i64 n, .int .i64 k, .slice (some ⟨bE, oE, none⟩) 2 cE, .slice (some ⟨bT, oT, none⟩) 2 cT] 24)).alloc (.cells #[.slice none 0 0, .int .i64 0, .int .i64 0, .slice none 0 0, .slice none 0 0] 24)) := ((Grew.refl w).alloc _).alloc _
      have s0 := r0.lt
      generalize ((w.alloc (.cells #[.slice (some ⟨bP, oP, none⟩) 3 cP, .int .i64 n, .int .i64 k, .slice (some ⟨bE, oE, none⟩) 2 cE, .slice (some ⟨bT, oT, none⟩) 2 cT] 24)).alloc (.cells #[.slice none 0 0, .int .i64 0, .int .i64 0, .slice none 0 0, .slice none 0 0] 24)) = w0 at *
      have y0 := k0.cell 0
      have y1 := k0.cell 1
      have y2 := k0.cell 2
      have y3 := k0.cell 3
      have y4 := k0.cell 4
      go_wp2_with fail
      refine (HC.out _ g0).mono ?_
      rintro e w1 ⟨rfl, g1⟩
      clear y0 y1 y2 y3 y4
      have k1 := k0.grew g1
      have r1 := r0.grew g1
      have G1 := g0.trans g1
      clear k0 r0 g0 g1 HC
      have y0 := k1.cell 0
      have y1 := k1.cell 1
      have y2 := k1.cell 2
      have y3 := k1.cell 3
      have y4 := k1.cell 4
      have dE0 := ((gcell G1).1 bE (oE) lE).trans cE0
      have x0 := r1.cell 0
      have x1 := r1.cell 1
      have x2 := r1.cell 2
      have x3 := r1.cell 3
      have x4 := r1.cell 4
      have f0 := r1.free 0
      have f1 := r1.free 1
      have f2 := r1.free 2
      have f3 := r1.free 3
      have f4 := r1.free 4
      go_wp2_with fail
      clear x0 x1 x2 x3 x4 f0 f1 f2 f3 f4 y0 y1 y2 y3 y4
      have ky := (((((r1.set (o := 0) (.slice (some ⟨bP, oP, none⟩) 3 cP)).set (o := 1) (.int .i64 n)).set (o := 2) (.int .i64 k)).set (o := 3) (.slice (some ⟨bE, oE, none⟩) 2 cE)).set (o := 4) (.slice (some ⟨bT, oT, none⟩) 2 cT))
      have gy := (((((G1.setCell (b := (w.heap.size + 1)) (o := 0) (by omega) (.slice (some ⟨bP, oP, none⟩) 3 cP)).setCell (b := (w.heap.size + 1)) (o := 1) (by omega) (.int .i64 n)).setCell (b := (w.heap.size + 1)) (o := 2) (by omega) (.int .i64 k)).setCell (b := (w.heap.size + 1)) (o := 3) (by omega) (.slice (some ⟨bE, oE, none⟩) 2 cE)).setCell (b := (w.heap.size + 1)) (o := 4) (by omega) (.slice (some ⟨bT, oT, none⟩) 2 cT))
      generalize (((((w1.setCell ⟨(w.heap.size + 1), 0, none⟩ (.slice (some ⟨bP, oP, none⟩) 3 cP)).setCell ⟨(w.heap.size + 1), 1, none⟩ (.int .i64 n)).setCell ⟨(w.heap.size + 1), 2, none⟩ (.int .i64 k)).setCell ⟨(w.heap.size + 1), 3, none⟩ (.slice (some ⟨bE, oE, none⟩) 2 cE)).setCell ⟨(w.heap.size + 1), 4, none⟩ (.slice (some ⟨bT, oT, none⟩) 2 cT)) = wy at *
      have z0 := ky.cell 0
      have z1 := ky.cell 1
      have z2 := ky.cell 2
      have z3 := ky.cell 3
      have z4 := ky.cell 4
      exact bodyPost_ret (v := .tuple #[.agg #[.slice (some ⟨bP, oP, none⟩) 3 cP, .int .i64 n, .int .i64 k, .slice (some ⟨bE, oE, none⟩) 2 cE, .slice (some ⟨bT, oT, none⟩) 2 cT], .bool true]) (by simp [results, Try.results14, go_sem, z0, z1, z2, z3, z4]) rfl ⟨_, rfl, Lib.hid ⟨⟨_, _, _, rfl, HB1.out.grew gy, HB2.out.grew gy, HB3.out.grew gy⟩, HI.out.2.2.2.1, HI.out.2.2.2.2⟩, g.trans gy⟩
    · skip
      have hst : s.store 8 (x % 4294967296) = { s with k := s.k } := by
        have q : bits .and .i64 4 2 = 0 := by decide
        simp [VS.store, VS.back, VS.e, onlyV, hX, he, q, hk0]
        try (cases s; simp_all)
      rw [hst] at HI ⊢
      clear hst
      have HV := Lib.hid hb
      obtain ⟨vP, vE, vT, rfl, h1, h2, h3⟩ := hb.shape
      obtain ⟨bP, oP, cP, rfl, lP, hP⟩ := h1.at (by simp)
      obtain ⟨bE, oE, cE, rfl, lE, hE⟩ := h2.at (by simp)
      obtain ⟨bT, oT, cT, rfl, lT, hT⟩ := h3.at (by simp)
      have HB1 := Lib.hid h1
      have HB2 := Lib.hid h2
      have HB3 := Lib.hid h3
      clear h1 h2 h3 hb
      obtain ⟨p1, p2, n, k, e0, t0, e1, t1⟩ := s
      have cP0 : w.cell? ⟨bP, oP, none⟩ = some (.int .i64 0) := hP 0 (by simp)
      have cP1 : w.cell? ⟨bP, oP + 1, none⟩ = some (.int .i64 p1) := hP 1 (by simp)
      have cP2 : w.cell? ⟨bP, oP + 2, none⟩ = some (.int .i64 p2) := hP 2 (by simp)
      have cE0 : w.cell? ⟨bE, oE, none⟩ = some (.int .i64 e0) := hE 0 (by simp)
      have cE1 : w.cell? ⟨bE, oE + 1, none⟩ = some (.int .i64 e1) := hE 1 (by simp)
      have cT0 : w.cell? ⟨bT, oT, none⟩ = some (.int .i64 t0) := hT 0 (by simp)
      have cT1 : w.cell? ⟨bT, oT + 1, none⟩ = some (.int .i64 t1) := hT 1 (by simp)
      clear hP hE hT
      dsimp only [VS.ps] at HV HB1 HB2 HB3 ⊢
      simp only [List.length_cons, List.length_nil, Nat.zero_add, Nat.reduceAdd] at HV HB1 HB2 HB3 ⊢
      dsimp only at he
      subst he
      clear hk0 hz
      try clear hsrc
      have q : bits .and .i64 2 4 = 0 := by decide
      go_enter Try.func14, Try.ntmps14
      go_upto_region 1 with fail
      have k0 : Blk ((w.alloc (.cells #[.slice (some ⟨bP, oP, none⟩) 3 cP, .int .i64 n, .int .i64 k, .slice (some ⟨bE, oE, none⟩) 2 cE, .slice (some ⟨bT, oT, none⟩) 2 cT] 24)).alloc (.cells #[.slice none 0 0, .int .i64 0, .int .i64 0, .slice none 0 0, .slice none 0 0] 24)) w.heap.size #[.slice (some ⟨bP, oP, none⟩) 3 cP, .int .i64 n, .int .i64 k, .slice (some ⟨bE, oE, none⟩) 2 cE, .slice (some ⟨bT, oT, none⟩) 2 cT] 24 := (Blk.new _ _ _ _ rfl).alloc _
      have r0 : Blk ((w.alloc (.cells #[.slice (some ⟨bP, oP, none⟩) 3 cP, .int .i64 n, .int .i64 k, .slice (some ⟨bE, oE, none⟩) 2 cE, .slice (some ⟨bT, oT, none⟩) 2 cT] 24)).alloc (.cells #[.slice none 0 0, .int .i64 0, .int .i64 0, .slice none 0 0, .slice none 0 0] 24)) (w.heap.size + 1) #[.slice none 0 0, .int .i64 0, .int .i64 0, .slice none 0 0, .slice none 0 0] 24 := Blk.new _ _ _ _ (by simp)
      have g0 : Grew w ((w.alloc (.cells #[.slice (some ⟨bP, oP, none⟩) 3 cP, .int .i64 n, .int .i64 k, .slice (some ⟨bE, oE, none⟩) 2 cE, .slice (some ⟨bT, oT, none⟩) 2 cT] 24)).alloc (.cells #[.slice none 0 0, .int .i64 0, .int .i64 0, .slice none 0 0, .slice none 0 0] 24)) := ((Grew.refl w).alloc _).alloc _
      have s0 := r0.lt
      generalize ((w.alloc (.cells #[.slice (some ⟨bP, oP, none⟩) 3 cP, .int .i64 n, .int .i64 k, .slice (some ⟨bE, oE, none⟩) 2 cE, .slice (some ⟨bT, oT, none⟩) 2 cT] 24)).alloc (.cells #[.slice none 0 0, .int .i64 0, .int .i64 0, .slice none 0 0, .slice none 0 0] 24)) = w0 at *
      have y0 := k0.cell 0
      have y1 := k0.cell 1
      have y2 := k0.cell 2
      have y3 := k0.cell 3
      have y4 := k0.cell 4
      go_wp2_with fail
      refine (HC.out _ g0).mono ?_
      rintro e w1 ⟨rfl, g1⟩
      clear y0 y1 y2 y3 y4
      have k1 := k0.grew g1
      have r1 := r0.grew g1
      have G1 := g0.trans g1
      clear k0 r0 g0 g1 HC
      have y0 := k1.cell 0
      have y1 := k1.cell 1
      have y2 := k1.cell 2
      have y3 := k1.cell 3
      have y4 := k1.cell 4
      have dE0 := ((gcell G1).1 bE (oE) lE).trans cE0
      have x0 := r1.cell 0
      have x1 := r1.cell 1
      have x2 := r1.cell 2
      have x3 := r1.cell 3
      have x4 := r1.cell 4
      have f0 := r1.free 0
      have f1 := r1.free 1
      have f2 := r1.free 2
      have f3 := r1.free 3
      have f4 := r1.free 4
      go_wp2_with fail
      clear x0 x1 x2 x3 x4 f0 f1 f2 f3 f4 y0 y1 y2 y3 y4
      have ky := (((((r1.set (o := 0) (.slice (some ⟨bP, oP, none⟩) 3 cP)).set (o := 1) (.int .i64 n)).set (o := 2) (.int .i64 k)).set (o := 3) (.slice (some ⟨bE, oE, none⟩) 2 cE)).set (o := 4) (.slice (some ⟨bT, oT, none⟩) 2 cT))
      have gy := (((((G1.setCell (b := (w.heap.size + 1)) (o := 0) (by omega) (.slice (some ⟨bP, oP, none⟩) 3 cP)).setCell (b := (w.heap.size + 1)) (o := 1) (by omega) (.int .i64 n)).setCell (b := (w.heap.size + 1)) (o := 2) (by omega) (.int .i64 k)).setCell (b := (w.heap.size + 1)) (o := 3) (by omega) (.slice (some ⟨bE, oE, none⟩) 2 cE)).setCell (b := (w.heap.size + 1)) (o := 4) (by omega) (.slice (some ⟨bT, oT, none⟩) 2 cT))
      generalize (((((w1.setCell ⟨(w.heap.size + 1), 0, none⟩ (.slice (some ⟨bP, oP, none⟩) 3 cP)).setCell ⟨(w.heap.size + 1), 1, none⟩ (.int .i64 n)).setCell ⟨(w.heap.size + 1), 2, none⟩ (.int .i64 k)).setCell ⟨(w.heap.size + 1), 3, none⟩ (.slice (some ⟨bE, oE, none⟩) 2 cE)).setCell ⟨(w.heap.size + 1), 4, none⟩ (.slice (some ⟨bT, oT, none⟩) 2 cT)) = wy at *
      have z0 := ky.cell 0
      have z1 := ky.cell 1
      have z2 := ky.cell 2
      have z3 := ky.cell 3
      have z4 := ky.cell 4
      exact bodyPost_ret (v := .tuple #[.agg #[.slice (some ⟨bP, oP, none⟩) 3 cP, .int .i64 n, .int .i64 k, .slice (some ⟨bE, oE, none⟩) 2 cE, .slice (some ⟨bT, oT, none⟩) 2 cT], .bool true]) (by simp [results, Try.results14, go_sem, z0, z1, z2, z3, z4]) rfl ⟨_, rfl, Lib.hid ⟨⟨_, _, _, rfl, HB1.out.grew gy, HB2.out.grew gy, HB3.out.grew gy⟩, HI.out.2.2.2.1, HI.out.2.2.2.2⟩, g.trans gy⟩
    · skip
      have hst : s.store 8 (x % 4294967296) = { s with k := bits .andNot .i64 s.k 4 } := by
        have q : bits .and .i64 4 4 = 4 := by decide
        simp [VS.store, VS.back, VS.e, onlyV, hX, he, q, hk0]
        try (cases s; simp_all)
      rw [hst] at HI ⊢
      clear hst
      have HV := Lib.hid hb
      obtain ⟨vP, vE, vT, rfl, h1, h2, h3⟩ := hb.shape
      obtain ⟨bP, oP, cP, rfl, lP, hP⟩ := h1.at (by simp)
      obtain ⟨bE, oE, cE, rfl, lE, hE⟩ := h2.at (by simp)
      obtain ⟨bT, oT, cT, rfl, lT, hT⟩ := h3.at (by simp)
      have HB1 := Lib.hid h1
      have HB2 := Lib.hid h2
      have HB3 := Lib.hid h3
      clear h1 h2 h3 hb
      obtain ⟨p1, p2, n, k, e0, t0, e1, t1⟩ := s
      have cP0 : w.cell? ⟨bP, oP, none⟩ = some (.int .i64 0) := hP 0 (by simp)
      have cP1 : w.cell? ⟨bP, oP + 1, none⟩ = some (.int .i64 p1) := hP 1 (by simp)
      have cP2 : w.cell? ⟨bP, oP + 2, none⟩ = some (.int .i64 p2) := hP 2 (by simp)
      have cE0 : w.cell? ⟨bE, oE, none⟩ = some (.int .i64 e0) := hE 0 (by simp)
      have cE1 : w.cell? ⟨bE, oE + 1, none⟩ = some (.int .i64 e1) := hE 1 (by simp)
      have cT0 : w.cell? ⟨bT, oT, none⟩ = some (.int .i64 t0) := hT 0 (by simp)
      have cT1 : w.cell? ⟨bT, oT + 1, none⟩ = some (.int .i64 t1) := hT 1 (by simp)
      clear hP hE hT
      dsimp only [VS.ps] at HV HB1 HB2 HB3 ⊢
      simp only [List.length_cons, List.length_nil, Nat.zero_add, Nat.reduceAdd] at HV HB1 HB2 HB3 ⊢
      dsimp only at he
      subst he
      clear hk0 hz
      try clear hsrc
      have q : bits .and .i64 4 4 = 4 := by decide
      go_enter Try.func14, Try.ntmps14
      go_upto_region 1 with fail
      have k0 : Blk ((w.alloc (.cells #[.slice (some ⟨bP, oP, none⟩) 3 cP, .int .i64 n, .int .i64 k, .slice (some ⟨bE, oE, none⟩) 2 cE, .slice (some ⟨bT, oT, none⟩) 2 cT] 24)).alloc (.cells #[.slice none 0 0, .int .i64 0, .int .i64 0, .slice none 0 0, .slice none 0 0] 24)) w.heap.size #[.slice (some ⟨bP, oP, none⟩) 3 cP, .int .i64 n, .int .i64 k, .slice (some ⟨bE, oE, none⟩) 2 cE, .slice (some ⟨bT, oT, none⟩) 2 cT] 24 := (Blk.new _ _ _ _ rfl).alloc _
      have r0 : Blk ((w.alloc (.cells #[.slice (some ⟨bP, oP, none⟩) 3 cP, .int .i64 n, .int .i64 k, .slice (some ⟨bE, oE, none⟩) 2 cE, .slice (some ⟨bT, oT, none⟩) 2 cT] 24)).alloc (.cells #[.slice none 0 0, .int .i64 0, .int .i64 0, .slice none 0 0, .slice none 0 0] 24)) (w.heap.size + 1) #[.slice none 0 0, .int .i64 0, .int .i64 0, .slice none 0 0, .slice none 0 0] 24 := Blk.new _ _ _ _ (by simp)
      have g0 : Grew w ((w.alloc (.cells #[.slice (some ⟨bP, oP, none⟩) 3 cP, .int .i64 n, .int .i64 k, .slice (some ⟨bE, oE, none⟩) 2 cE, .slice (some ⟨bT, oT, none⟩) 2 cT] 24)).alloc (.cells #[.slice none 0 0, .int .i64 0, .int .i64 0, .slice none 0 0, .slice none 0 0] 24)) := ((Grew.refl w).alloc _).alloc _
      have s0 := r0.lt
      generalize ((w.alloc (.cells #[.slice (some ⟨bP, oP, none⟩) 3 cP, .int .i64 n, .int .i64 k, .slice (some ⟨bE, oE, none⟩) 2 cE, .slice (some ⟨bT, oT, none⟩) 2 cT] 24)).alloc (.cells #[.slice none 0 0, .int .i64 0, .int .i64 0, .slice none 0 0, .slice none 0 0] 24)) = w0 at *
      have y0 := k0.cell 0
      have y1 := k0.cell 1
      have y2 := k0.cell 2
      have y3 := k0.cell 3
      have y4 := k0.cell 4
      go_wp2_with fail
      refine (HC.out _ g0).mono ?_
      rintro e w1 ⟨rfl, g1⟩
      clear y0 y1 y2 y3 y4
      have k1 := k0.grew g1
      have r1 := r0.grew g1
      have G1 := g0.trans g1
      clear k0 r0 g0 g1 HC
      have y0 := k1.cell 0
      have y1 := k1.cell 1
      have y2 := k1.cell 2
      have y3 := k1.cell 3
      have y4 := k1.cell 4
      have dE0 := ((gcell G1).1 bE (oE) lE).trans cE0
      have u2 := k1.free 2
      go_upto_region 20 with fail
      have k3 := k1.set (o := 2) (.int .i64 (bits .andNot .i64 k 4))
      have r3 := r1.other (show w.heap.size + 1 ≠ w.heap.size by omega) (o := 2) (.int .i64 (bits .andNot .i64 k 4))
      have G3 := G1.setCell (b := w.heap.size) (o := 2) (Nat.le_refl _) (.int .i64 (bits .andNot .i64 k 4))
      clear u2 k1 r1 G1 dE0
      clear y0 y1 y2 y3 y4
      generalize w1.setCell ⟨w.heap.size, 2, none⟩ (.int .i64 (bits .andNot .i64 k 4)) = w3 at *
      have y0 := k3.cell 0
      have y1 := k3.cell 1
      have y2 := k3.cell 2
      have y3 := k3.cell 3
      have y4 := k3.cell 4
      have x0 := r3.cell 0
      have x1 := r3.cell 1
      have x2 := r3.cell 2
      have x3 := r3.cell 3
      have x4 := r3.cell 4
      have f0 := r3.free 0
      have f1 := r3.free 1
      have f2 := r3.free 2
      have f3 := r3.free 3
      have f4 := r3.free 4
      go_wp2_with fail
      clear x0 x1 x2 x3 x4 f0 f1 f2 f3 f4 y0 y1 y2 y3 y4
      have ky := (((((r3.set (o := 0) (.slice (some ⟨bP, oP, none⟩) 3 cP)).set (o := 1) (.int .i64 n)).set (o := 2) (.int .i64 (bits .andNot .i64 k 4))).set (o := 3) (.slice (some ⟨bE, oE, none⟩) 2 cE)).set (o := 4) (.slice (some ⟨bT, oT, none⟩) 2 cT))
      have gy := (((((G3.setCell (b := (w.heap.size + 1)) (o := 0) (by omega) (.slice (some ⟨bP, oP, none⟩) 3 cP)).setCell (b := (w.heap.size + 1)) (o := 1) (by omega) (.int .i64 n)).setCell (b := (w.heap.size + 1)) (o := 2) (by omega) (.int .i64 (bits .andNot .i64 k 4))).setCell (b := (w.heap.size + 1)) (o := 3) (by omega) (.slice (some ⟨bE, oE, none⟩) 2 cE)).setCell (b := (w.heap.size + 1)) (o := 4) (by omega) (.slice (some ⟨bT, oT, none⟩) 2 cT))
      generalize (((((w3.setCell ⟨(w.heap.size + 1), 0, none⟩ (.slice (some ⟨bP, oP, none⟩) 3 cP)).setCell ⟨(w.heap.size + 1), 1, none⟩ (.int .i64 n)).setCell ⟨(w.heap.size + 1), 2, none⟩ (.int .i64 (bits .andNot .i64 k 4))).setCell ⟨(w.heap.size + 1), 3, none⟩ (.slice (some ⟨bE, oE, none⟩) 2 cE)).setCell ⟨(w.heap.size + 1), 4, none⟩ (.slice (some ⟨bT, oT, none⟩) 2 cT)) = wy at *
      have z0 := ky.cell 0
      have z1 := ky.cell 1
      have z2 := ky.cell 2
      have z3 := ky.cell 3
      have z4 := ky.cell 4
      exact bodyPost_ret (v := .tuple #[.agg #[.slice (some ⟨bP, oP, none⟩) 3 cP, .int .i64 n, .int .i64 (bits .andNot .i64 k 4), .slice (some ⟨bE, oE, none⟩) 2 cE, .slice (some ⟨bT, oT, none⟩) 2 cT], .bool true]) (by simp [results, Try.results14, go_sem, z0, z1, z2, z3, z4]) rfl ⟨_, rfl, Lib.hid ⟨⟨_, _, _, rfl, HB1.out.grew gy, HB2.out.grew gy, HB3.out.grew gy⟩, HI.out.2.2.2.1, HI.out.2.2.2.2⟩, g.trans gy⟩
    · skip
      have hst : s.store 8 (x % 4294967296) = { s with k := bits .andNot .i64 s.k 4 } := by
        have q : bits .and .i64 4 6 = 4 := by decide
        simp [VS.store, VS.back, VS.e, onlyV, hX, he, q, hk0]
        try (cases s; simp_all)
      rw [hst] at HI ⊢
      clear hst
      have HV := Lib.hid hb
      obtain ⟨vP, vE, vT, rfl, h1, h2, h3⟩ := hb.shape
      obtain ⟨bP, oP, cP, rfl, lP, hP⟩ := h1.at (by simp)
      obtain ⟨bE, oE, cE, rfl, lE, hE⟩ := h2.at (by simp)
      obtain ⟨bT, oT, cT, rfl, lT, hT⟩ := h3.at (by simp)
      have HB1 := Lib.hid h1
      have HB2 := Lib.hid h2
      have HB3 := Lib.hid h3
      clear h1 h2 h3 hb
      obtain ⟨p1, p2, n, k, e0, t0, e1, t1⟩ := s
      have cP0 : w.cell? ⟨bP, oP, none⟩ = some (.int .i64 0) := hP 0 (by simp)
      have cP1 : w.cell? ⟨bP, oP + 1, none⟩ = some (.int .i64 p1) := hP 1 (by simp)
      have cP2 : w.cell? ⟨bP, oP + 2, none⟩ = some (.int .i64 p2) := hP 2 (by simp)
      have cE0 : w.cell? ⟨bE, oE, none⟩ = some (.int .i64 e0) := hE 0 (by simp)
      have cE1 : w.cell? ⟨bE, oE + 1, none⟩ = some (.int .i64 e1) := hE 1 (by simp)
      have cT0 : w.cell? ⟨bT, oT, none⟩ = some (.int .i64 t0) := hT 0 (by simp)
      have cT1 : w.cell? ⟨bT, oT + 1, none⟩ = some (.int .i64 t1) := hT 1 (by simp)
      clear hP hE hT
      dsimp only [VS.ps] at HV HB1 HB2 HB3 ⊢
      simp only [List.length_cons, List.length_nil, Nat.zero_add, Nat.reduceAdd] at HV HB1 HB2 HB3 ⊢
      dsimp only at he
      subst he
      clear hk0 hz
      try clear hsrc
      have q : bits .and .i64 6 4 = 4 := by decide
      go_enter Try.func14, Try.ntmps14
      go_upto_region 1 with fail
      have k0 : Blk ((w.alloc (.cells #[.slice (some ⟨bP, oP, none⟩) 3 cP, .int .i64 n, .int .i64 k, .slice (some ⟨bE, oE, none⟩) 2 cE, .slice (some ⟨bT, oT, none⟩) 2 cT] 24)).alloc (.cells #[.slice none 0 0, .int .i64 0, .int .i64 0, .slice none 0 0, .slice none 0 0] 24)) w.heap.size #[.slice (some ⟨bP, oP, none⟩) 3 cP, .int .i64 n, .int .i64 k, .slice (some ⟨bE, oE, none⟩) 2 cE, .slice (some ⟨bT, oT, none⟩) 2 cT] 24 := (Blk.new _ _ _ _ rfl).alloc _
      have r0 : Blk ((w.alloc (.cells #[.slice (some ⟨bP, oP, none⟩) 3 cP, .int .i64 n, .int .i64 k, .slice (some ⟨bE, oE, none⟩) 2 cE, .slice (some ⟨bT, oT, none⟩) 2 cT] 24)).alloc (.cells #[.slice none 0 0, .int .i64 0, .int .i64 0, .slice none 0 0, .slice none 0 0] 24)) (w.heap.size + 1) #[.slice none 0 0, .int .i64 0, .int .i64 0, .slice none 0 0, .slice none 0 0] 24 := Blk.new _ _ _ _ (by simp)
      have g0 : Grew w ((w.alloc (.cells #[.slice (some ⟨bP, oP, none⟩) 3 cP, .int .i64 n, .int .i64 k, .slice (some ⟨bE, oE, none⟩) 2 cE, .slice (some ⟨bT, oT, none⟩) 2 cT] 24)).alloc (.cells #[.slice none 0 0, .int .i64 0, .int .i64 0, .slice none 0 0, .slice none 0 0] 24)) := ((Grew.refl w).alloc _).alloc _
      have s0 := r0.lt
      generalize ((w.alloc (.cells #[.slice (some ⟨bP, oP, none⟩) 3 cP, .int .i64 n, .int .i64 k, .slice (some ⟨bE, oE, none⟩) 2 cE, .slice (some ⟨bT, oT, none⟩) 2 cT] 24)).alloc (.cells #[.slice none 0 0, .int .i64 0, .int .i64 0, .slice none 0 0, .slice none 0 0] 24)) = w0 at *
      have y0 := k0.cell 0
      have y1 := k0.cell 1
      have y2 := k0.cell 2
      have y3 := k0.cell 3
      have y4 := k0.cell 4
      go_wp2_with fail
      refine (HC.out _ g0).mono ?_
      rintro e w1 ⟨rfl, g1⟩
      clear y0 y1 y2 y3 y4
      have k1 := k0.grew g1
      have r1 := r0.grew g1
      have G1 := g0.trans g1
      clear k0 r0 g0 g1 HC
      have y0 := k1.cell 0
      have y1 := k1.cell 1
      have y2 := k1.cell 2
      have y3 := k1.cell 3
      have y4 := k1.cell 4
      have dE0 := ((gcell G1).1 bE (oE) lE).trans cE0
      have u2 := k1.free 2
      go_upto_region 20 with fail
      have k3 := k1.set (o := 2) (.int .i64 (bits .andNot .i64 k 4))
      have r3 := r1.other (show w.heap.size + 1 ≠ w.heap.size by omega) (o := 2) (.int .i64 (bits .andNot .i64 k 4))
      have G3 := G1.setCell (b := w.heap.size) (o := 2) (Nat.le_refl _) (.int .i64 (bits .andNot .i64 k 4))
      clear u2 k1 r1 G1 dE0
      clear y0 y1 y2 y3 y4
      generalize w1.setCell ⟨w.heap.size, 2, none⟩ (.int .i64 (bits .andNot .i64 k 4)) = w3 at *
      have y0 := k3.cell 0
      have y1 := k3.cell 1
      have y2 := k3.cell 2
      have y3 := k3.cell 3
      have y4 := k3.cell 4
      have x0 := r3.cell 0
      have x1 := r3.cell 1
      have x2 := r3.cell 2
      have x3 := r3.cell 3
      have x4 := r3.cell 4
      have f0 := r3.free 0
      have f1 := r3.free 1
      have f2 := r3.free 2
      have f3 := r3.free 3
      have f4 := r3.free 4
      go_wp2_with fail
      clear x0 x1 x2 x3 x4 f0 f1 f2 f3 f4 y0 y1 y2 y3 y4
      have ky := (((((r3.set (o := 0) (.slice (some ⟨bP, oP, none⟩) 3 cP)).set (o := 1) (.int .i64 n)).set (o := 2) (.int .i64 (bits .andNot .i64 k 4))).set (o := 3) (.slice (some ⟨bE, oE, none⟩) 2 cE)).set (o := 4) (.slice (some ⟨bT, oT, none⟩) 2 cT))
      have gy := (((((G3.setCell (b := (w.heap.size + 1)) (o := 0) (by omega) (.slice (some ⟨bP, oP, none⟩) 3 cP)).setCell (b := (w.heap.size + 1)) (o := 1) (by omega) (.int .i64 n)).setCell (b := (w.heap.size + 1)) (o := 2) (by omega) (.int .i64 (bits .andNot .i64 k 4))).setCell (b := (w.heap.size + 1)) (o := 3) (by omega) (.slice (some ⟨bE, oE, none⟩) 2 cE)).setCell (b := (w.heap.size + 1)) (o := 4) (by omega) (.slice (some ⟨bT, oT, none⟩) 2 cT))
      generalize (((((w3.setCell ⟨(w.heap.size + 1), 0, none⟩ (.slice (some ⟨bP, oP, none⟩) 3 cP)).setCell ⟨(w.heap.size + 1), 1, none⟩ (.int .i64 n)).setCell ⟨(w.heap.size + 1), 2, none⟩ (.int .i64 (bits .andNot .i64 k 4))).setCell ⟨(w.heap.size + 1), 3, none⟩ (.slice (some ⟨bE, oE, none⟩) 2 cE)).setCell ⟨(w.heap.size + 1), 4, none⟩ (.slice (some ⟨bT, oT, none⟩) 2 cT)) = wy at *
      have z0 := ky.cell 0
      have z1 := ky.cell 1
      have z2 := ky.cell 2
      have z3 := ky.cell 3
      have z4 := ky.cell 4
      exact bodyPost_ret (v := .tuple #[.agg #[.slice (some ⟨bP, oP, none⟩) 3 cP, .int .i64 n, .int .i64 (bits .andNot .i64 k 4), .slice (some ⟨bE, oE, none⟩) 2 cE, .slice (some ⟨bT, oT, none⟩) 2 cT], .bool true]) (by simp [results, Try.results14, go_sem, z0, z1, z2, z3, z4]) rfl ⟨_, rfl, Lib.hid ⟨⟨_, _, _, rfl, HB1.out.grew gy, HB2.out.grew gy, HB3.out.grew gy⟩, HI.out.2.2.2.1, HI.out.2.2.2.2⟩, g.trans gy⟩
  have m2 : (x % 4294967296 == 2) = false := by simpa using hX
  have w2 := hX
  clear hX
  have hst : s.store 8 (x % 4294967296) = s := by
    have q := hz _ rfl
    simp [VS.store, VS.back, onlyV, w1, w2, q, hk0]
  rw [hst] at HI ⊢
  clear hst w1 w2
  have HV := Lib.hid hb
  obtain ⟨vP, vE, vT, rfl, h1, h2, h3⟩ := hb.shape
  obtain ⟨bP, oP, cP, rfl, lP, hP⟩ := h1.at (by simp)
  obtain ⟨bE, oE, cE, rfl, lE, hE⟩ := h2.at (by simp)
  obtain ⟨bT, oT, cT, rfl, lT, hT⟩ := h3.at (by simp)
  have HB1 := Lib.hid h1
  have HB2 := Lib.hid h2
  have HB3 := Lib.hid h3
  clear h1 h2 h3 hb
  obtain ⟨p1, p2, n, k, e0, t0, e1, t1⟩ := s
  have cP0 : w.cell? ⟨bP, oP, none⟩ = some (.int .i64 0) := hP 0 (by simp)
  have cP1 : w.cell? ⟨bP, oP + 1, none⟩ = some (.int .i64 p1) := hP 1 (by simp)
  have cP2 : w.cell? ⟨bP, oP + 2, none⟩ = some (.int .i64 p2) := hP 2 (by simp)
  have cE0 : w.cell? ⟨bE, oE, none⟩ = some (.int .i64 e0) := hE 0 (by simp)
  have cE1 : w.cell? ⟨bE, oE + 1, none⟩ = some (.int .i64 e1) := hE 1 (by simp)
  have cT0 : w.cell? ⟨bT, oT, none⟩ = some (.int .i64 t0) := hT 0 (by simp)
  have cT1 : w.cell? ⟨bT, oT + 1, none⟩ = some (.int .i64 t1) := hT 1 (by simp)
  clear hP hE hT
  dsimp only [VS.ps] at HV HB1 HB2 HB3 ⊢
  simp only [List.length_cons, List.length_nil, Nat.zero_add, Nat.reduceAdd] at HV HB1 HB2 HB3 ⊢
  clear hk0 hz
  try clear hsrc
  go_enter Try.func14, Try.ntmps14
  go_upto_region 1 with fail
  have k0 : Blk ((w.alloc (.cells #[.slice (some ⟨bP, oP, none⟩) 3 cP, .int .i64 n, .int .i64 k, .slice (some ⟨bE, oE, none⟩) 2 cE, .slice (some ⟨bT, oT, none⟩) 2 cT] 24)).alloc (.cells #[.slice none 0 0, .int .i64 0, .int .i64 0, .slice none 0 0, .slice none 0 0] 24)) w.heap.size #[.slice (some ⟨bP, oP, none⟩) 3 cP, .int .i64 n, .int .i64 k, .slice (some ⟨bE, oE, none⟩) 2 cE, .slice (some ⟨bT, oT, none⟩) 2 cT] 24 := (Blk.new _ _ _ _ rfl).alloc _
  have r0 : Blk ((w.alloc (.cells #[.slice (some ⟨bP, oP, none⟩) 3 cP, .int .i64 n, .int .i64 k, .slice (some ⟨bE, oE, none⟩) 2 cE, .slice (some ⟨bT, oT, none⟩) 2 cT] 24)).alloc (.cells #[.slice none 0 0, .int .i64 0, .int .i64 0, .slice none 0 0, .slice none 0 0] 24)) (w.heap.size + 1) #[.slice none 0 0, .int .i64 0, .int .i64 0, .slice none 0 0, .slice none 0 0] 24 := Blk.new _ _ _ _ (by simp)
  have g0 : Grew w ((w.alloc (.cells #[.slice (some ⟨bP, oP, none⟩) 3 cP, .int .i64 n, .int .i64 k, .slice (some ⟨bE, oE, none⟩) 2 cE, .slice (some ⟨bT, oT, none⟩) 2 cT] 24)).alloc (.cells #[.slice none 0 0, .int .i64 0, .int .i64 0, .slice none 0 0, .slice none 0 0] 24)) := ((Grew.refl w).alloc _).alloc _
  have s0 := r0.lt
  generalize ((w.alloc (.cells #[.slice (some ⟨bP, oP, none⟩) 3 cP, .int .i64 n, .int .i64 k, .slice (some ⟨bE, oE, none⟩) 2 cE, .slice (some ⟨bT, oT, none⟩) 2 cT] 24)).alloc (.cells #[.slice none 0 0, .int .i64 0, .int .i64 0, .slice none 0 0, .slice none 0 0] 24)) = w0 at *
  have y0 := k0.cell 0
  have y1 := k0.cell 1
  have y2 := k0.cell 2
  have y3 := k0.cell 3
  have y4 := k0.cell 4
  go_wp2_with fail
  refine (HC.out _ g0).mono ?_
  rintro e w1 ⟨rfl, g1⟩
  clear y0 y1 y2 y3 y4
  have k1 := k0.grew g1
  have r1 := r0.grew g1
  have G1 := g0.trans g1
  clear k0 r0 g0 g1 HC
  have y0 := k1.cell 0
  have y1 := k1.cell 1
  have y2 := k1.cell 2
  have y3 := k1.cell 3
  have y4 := k1.cell 4
  have dE0 := ((gcell G1).1 bE (oE) lE).trans cE0
  have x0 := r1.cell 0
  have x1 := r1.cell 1
  have x2 := r1.cell 2
  have x3 := r1.cell 3
  have x4 := r1.cell 4
  have f0 := r1.free 0
  have f1 := r1.free 1
  have f2 := r1.free 2
  have f3 := r1.free 3
  have f4 := r1.free 4
  go_wp2_with fail
  clear x0 x1 x2 x3 x4 f0 f1 f2 f3 f4 y0 y1 y2 y3 y4
  have ky := (((((r1.set (o := 0) (.slice (some ⟨bP, oP, none⟩) 3 cP)).set (o := 1) (.int .i64 n)).set (o := 2) (.int .i64 k)).set (o := 3) (.slice (some ⟨bE, oE, none⟩) 2 cE)).set (o := 4) (.slice (some ⟨bT, oT, none⟩) 2 cT))
  have gy := (((((G1.setCell (b := (w.heap.size + 1)) (o := 0) (by omega) (.slice (some ⟨bP, oP, none⟩) 3 cP)).setCell (b := (w.heap.size + 1)) (o := 1) (by omega) (.int .i64 n)).setCell (b := (w.heap.size + 1)) (o := 2) (by omega) (.int .i64 k)).setCell (b := (w.heap.size + 1)) (o := 3) (by omega) (.slice (some ⟨bE, oE, none⟩) 2 cE)).setCell (b := (w.heap.size + 1)) (o := 4) (by omega) (.slice (some ⟨bT, oT, none⟩) 2 cT))
  generalize (((((w1.setCell ⟨(w.heap.size + 1), 0, none⟩ (.slice (some ⟨bP, oP, none⟩) 3 cP)).setCell ⟨(w.heap.size + 1), 1, none⟩ (.int .i64 n)).setCell ⟨(w.heap.size + 1), 2, none⟩ (.int .i64 k)).setCell ⟨(w.heap.size + 1), 3, none⟩ (.slice (some ⟨bE, oE, none⟩) 2 cE)).setCell ⟨(w.heap.size + 1), 4, none⟩ (.slice (some ⟨bT, oT, none⟩) 2 cT)) = wy at *
  have z0 := ky.cell 0
  have z1 := ky.cell 1
  have z2 := ky.cell 2
  have z3 := ky.cell 3
  have z4 := ky.cell 4
  exact bodyPost_ret (v := .tuple #[.agg #[.slice (some ⟨bP, oP, none⟩) 3 cP, .int .i64 n, .int .i64 k, .slice (some ⟨bE, oE, none⟩) 2 cE, .slice (some ⟨bT, oT, none⟩) 2 cT], .bool true]) (by simp [results, Try.results14, go_sem, z0, z1, z2, z3, z4]) rfl ⟨_, rfl, Lib.hid ⟨⟨_, _, _, rfl, HB1.out.grew gy, HB2.out.grew gy, HB3.out.grew gy⟩, HI.out.2.2.2.1, HI.out.2.2.2.2⟩, g.trans gy⟩
set_option maxHeartbeats 2000000 in
theorem refStore_9 {v : Value} {s : VS} (hs : s.Ok) (x : Int) (hx0 : 0 ≤ x) (hx1 : x < 18446744073709551616) {W w : World} (hb : Pl w v s.ps) (g : Grew W w) :
    Calls Try.prog 14 #[v, .int .u64 2101252, .int .i64 4, .int .u64 x] w fun e w' => ∃ v', e = .returned (.tuple #[v', .bool true]) ∧ Hid (Pl w' v' (s.store 9 (x % 4294967296)).ps) ∧ Grew W w' := by
  have hC := fun (w1 : World) (g1 : Grew w w1) => refCheck_c (Grew.refl w1) (hb.grew g1)
  rw [chk_mk hs] at hC
  have HC := Lib.hid hC
  have hgs := g.size
  have hok := fun r y => (hs.store r y).rows
  have HOK := Lib.hid hok
  have HS := Lib.hid hs
  have h60 := and6_u64 (y := x % 4294967296) (by omega) (by omega)
  have h61 := (and_six (x % 4294967296)).bd
  clear hC hok hs
  have hi := HOK.out 9 (x % 4294967296)
  clear HOK
  have HI := Lib.hid hi
  clear hi
  clear h60 h61
  have hk0 : bits .andNot .i64 s.k 0 = s.k := by rcases HS.out.k with e | e | e | e <;> rw [e] <;> decide
  have hz : ∀ y, bits .and .i64 0 (s.e 1) = y → y = 0 := fun y h => by rw [← h]; rcases HS.out.e 1 with e | e | e | e <;> rw [e] <;> decide
  have hsrc := HS.out.e1
  by_cases hX : x % 4294967296 = 1
  · rcases hsrc with he | he | he | he
    · skip
      have hst : s.store 9 (x % 4294967296) = { s with k := s.k } := by
        have q : bits .and .i64 2 0 = 0 := by decide
        simp [VS.store, VS.back, VS.e, onlyV, hX, he, q, hk0]
        try (cases s; simp_all)
      rw [hst] at HI ⊢
      clear hst
      have HV := Lib.hid hb
      obtain ⟨vP, vE, vT, rfl, h1, h2, h3⟩ := hb.shape
      obtain ⟨bP, oP, cP, rfl, lP, hP⟩ := h1.at (by simp)
      obtain ⟨bE, oE, cE, rfl, lE, hE⟩ := h2.at (by simp)
      obtain ⟨bT, oT, cT, rfl, lT, hT⟩ := h3.at (by simp)
      have HB1 := Lib.hid h1
      have HB2 := Lib.hid h2
      have HB3 := Lib.hid h3
      clear h1 h2 h3 hb
      obtain ⟨p1, p2, n, k, e0, t0, e1, t1⟩ := s
      have cP0 : w.cell? ⟨bP, oP, none⟩ = some (.int .i64 0) := hP 0 (by simp)
      have cP1 : w.cell? ⟨bP, oP + 1, none⟩ = some (.int .i64 p1) := hP 1 (by simp)
      have cP2 : w.cell? ⟨bP, oP + 2, none⟩ = some (.int .i64 p2) := hP 2 (by simp)
      have cE0 : w.cell? ⟨bE, oE, none⟩ = some (.int .i64 e0) := hE 0 (by simp)
      have cE1 : w.cell? ⟨bE, oE + 1, none⟩ = some (.int .i64 e1) := hE 1 (by simp)
      have cT0 : w.cell? ⟨bT, oT, none⟩ = some (.int .i64 t0) := hT 0 (by simp)
      have cT1 : w.cell? ⟨bT, oT + 1, none⟩ = some (.int .i64 t1) := hT 1 (by simp)
      clear hP hE hT
      dsimp only [VS.ps] at HV HB1 HB2 HB3 ⊢
      simp only [List.length_cons, List.length_nil, Nat.zero_add, Nat.reduceAdd] at HV HB1 HB2 HB3 ⊢
      dsimp only at he
      subst he
      clear hk0 hz
      try clear hsrc
      have q : bits .and .i64 0 2 = 0 := by decide
      go_enter Try.func14, Try.ntmps14
      go_upto_region 1 with fail
      have k0 : Blk ((w.alloc (.cells #[.slice (some ⟨bP, oP, none⟩) 3 cP, .int .i64 n, .int .i64 k, .slice (some ⟨bE, oE, none⟩) 2 cE, .slice (some ⟨bT, oT, none⟩) 2 cT] 24)).alloc (.cells #[.slice none 0 0, .int .i64 0, .int .i64 0, .slice none 0 0, .slice none 0 0] 24)) w.heap.size #[.slice (some ⟨bP, oP, none⟩) 3 cP, .int .i64 n, .int .i64 k, .slice (some ⟨bE, oE, none⟩) 2 cE, .slice (some ⟨bT, oT, none⟩) 2 cT] 24 := (Blk.new _ _ _ _ rfl).alloc _
      have r0 : Blk ((w.alloc (.cells #[.slice (some ⟨bP, oP, none⟩) 3 cP, .int .i64 n, .int .i64 k, .slice (some ⟨bE, oE, none⟩) 2 cE, .slice (some ⟨bT, oT, none⟩) 2 cT] 24)).alloc (.cells #[.slice none 0 0, .int .i64 0, .int .i64 0, .slice none 0 0, .slice none 0 0] 24)) (w.heap.size + 1) #[.slice none 0 0, .int .i64 0, .int .i64 0, .slice none 0 0, .slice none 0 0] 24 := Blk.new _ _ _ _ (by simp)
      have g0 : Grew w ((w.alloc (.cells #[.slice (some ⟨bP, oP, none⟩) 3 cP, .int .i64 n, .int .i64 k, .slice (some ⟨bE, oE, none⟩) 2 cE, .slice (some ⟨bT, oT, none⟩) 2 cT] 24)).alloc (.cells #[.slice none 0 0, .int .i64 0, .int .i64 0, .slice none 0 0, .slice none 0 0] 24)) := ((Grew.refl w).alloc _).alloc _
      have s0 := r0.lt
      generalize ((w.alloc (.cells #[.slice (some ⟨bP, oP, none⟩) 3 cP, .int .i64 n, .int .i64 k, .slice (some ⟨bE, oE, none⟩) 2 cE, .slice (some ⟨bT, oT, none⟩) 2 cT] 24)).alloc (.cells #[.slice none 0 0, .int .i64 0, .int .i64 0, .slice none 0 0, .slice none 0 0] 24)) = w0 at *
      have y0 := k0.cell 0
      have y1 := k0.cell 1
      have y2 := k0.cell 2
      have y3 := k0.cell 3
      have y4 := k0.cell 4
      go_wp2_with fail
      refine (HC.out _ g0).mono ?_
      rintro e w1 ⟨rfl, g1⟩
      clear y0 y1 y2 y3 y4
      have k1 := k0.grew g1
      have r1 := r0.grew g1
      have G1 := g0.trans g1
      clear k0 r0 g0 g1 HC
      have y0 := k1.cell 0
      have y1 := k1.cell 1
      have y2 := k1.cell 2
      have y3 := k1.cell 3
      have y4 := k1.cell 4
      have dE1 := ((gcell G1).1 bE (oE + 1) lE).trans cE1
      have x0 := r1.cell 0
      have x1 := r1.cell 1
      have x2 := r1.cell 2
      have x3 := r1.cell 3
      have x4 := r1.cell 4
      have f0 := r1.free 0
      have f1 := r1.free 1
      have f2 := r1.free 2
      have f3 := r1.free 3
      have f4 := r1.free 4
      go_wp2_with fail
      clear x0 x1 x2 x3 x4 f0 f1 f2 f3 f4 y0 y1 y2 y3 y4
      have ky := (((((r1.set (o := 0) (.slice (some ⟨bP, oP, none⟩) 3 cP)).set (o := 1) (.int .i64 n)).set (o := 2) (.int .i64 k)).set (o := 3) (.slice (some ⟨bE, oE, none⟩) 2 cE)).set (o := 4) (.slice (some ⟨bT, oT, none⟩) 2 cT))
      have gy := (((((G1.setCell (b := (w.heap.size + 1)) (o := 0) (by omega) (.slice (some ⟨bP, oP, none⟩) 3 cP)).setCell (b := (w.heap.size + 1)) (o := 1) (by omega) (.int .i64 n)).setCell (b := (w.heap.size + 1)) (o := 2) (by omega) (.int .i64 k)).setCell (b := (w.heap.size + 1)) (o := 3) (by omega) (.slice (some ⟨bE, oE, none⟩) 2 cE)).setCell (b := (w.heap.size + 1)) (o := 4) (by omega) (.slice (some ⟨bT, oT, none⟩) 2 cT))
      generalize (((((w1.setCell ⟨(w.heap.size + 1), 0, none⟩ (.slice (some ⟨bP, oP, none⟩) 3 cP)).setCell ⟨(w.heap.size + 1), 1, none⟩ (.int .i64 n)).setCell ⟨(w.heap.size + 1), 2, none⟩ (.int .i64 k)).setCell ⟨(w.heap.size + 1), 3, none⟩ (.slice (some ⟨bE, oE, none⟩) 2 cE)).setCell ⟨(w.heap.size + 1), 4, none⟩ (.slice (some ⟨bT, oT, none⟩) 2 cT)) = wy at *
      have z0 := ky.cell 0
      have z1 := ky.cell 1
      have z2 := ky.cell 2
      have z3 := ky.cell 3
      have z4 := ky.cell 4
      exact bodyPost_ret (v := .tuple #[.agg #[.slice (some ⟨bP, oP, none⟩) 3 cP, .int .i64 n, .int .i64 k, .slice (some ⟨bE, oE, none⟩) 2 cE, .slice (some ⟨bT, oT, none⟩) 2 cT], .bool true]) (by simp [results, Try.results14, go_sem, z0, z1, z2, z3, z4]) rfl ⟨_, rfl, Lib.hid ⟨⟨_, _, _, rfl, HB1.out.grew gy, HB2.out.grew gy, HB3.out.grew gy⟩, HI.out.2.2.2.1, HI.out.2.2.2.2⟩, g.trans gy⟩
    · skip
      have hst : s.store 9 (x % 4294967296) = { s with k := bits .andNot .i64 s.k 2 } := by
        have q : bits .and .i64 2 2 = 2 := by decide
        simp [VS.store, VS.back, VS.e, onlyV, hX, he, q, hk0]
        try (cases s; simp_all)
      rw [hst] at HI ⊢
      clear hst
      have HV := Lib.hid hb
      obtain ⟨vP, vE, vT, rfl, h1, h2, h3⟩ := hb.shape
      obtain ⟨bP, oP, cP, rfl, lP, hP⟩ := h1.at (by simp)
      obtain ⟨bE, oE, cE, rfl, lE, hE⟩ := h2.at (by simp)
      obtain ⟨bT, oT, cT, rfl, lT, hT⟩ := h3.at (by simp)
      have HB1 := Lib.hid h1
      have HB2 := Lib.hid h2
      have HB3 := Lib.hid h3
      clear h1 h2 h3 hb
      obtain ⟨p1, p2, n, k, e0, t0, e1, t1⟩ := s
      have cP0 : w.cell? ⟨bP, oP, none⟩ = some (.int .i64 0) := hP 0 (by simp)
      have cP1 : w.cell? ⟨bP, oP + 1, none⟩ = some (.int .i64 p1) := hP 1 (by simp)
      have cP2 : w.cell? ⟨bP, oP + 2, none⟩ = some (.int .i64 p2) := hP 2 (by simp)
      have cE0 : w.cell? ⟨bE, oE, none⟩ = some (.int .i64 e0) := hE 0 (by simp)
      have cE1 : w.cell? ⟨bE, oE + 1, none⟩ = some (.int .i64 e1) := hE 1 (by simp)
      have cT0 : w.cell? ⟨bT, oT, none⟩ = some (.int .i64 t0) := hT 0 (by simp)
      have cT1 : w.cell? ⟨bT, oT + 1, none⟩ = some (.int .i64 t1) := hT 1 (by simp)
      clear hP hE hT
      dsimp only [VS.ps] at HV HB1 HB2 HB3 ⊢
      simp only [List.length_cons, List.length_nil, Nat.zero_add, Nat.reduceAdd] at HV HB1 HB2 HB3 ⊢
      dsimp only at he
      subst he
      clear hk0 hz
      try clear hsrc
      have q : bits .and .i64 2 2 = 2 := by decide
      go_enter Try.func14, Try.ntmps14
      go_upto_region 1 with fail
      have k0 : Blk ((w.alloc (.cells #[.slice (some ⟨bP, oP, none⟩) 3 cP, .int .i64 n, .int .i64 k, .slice (some ⟨bE, oE, none⟩) 2 cE, .slice (some ⟨bT, oT, none⟩) 2 cT] 24)).alloc (.cells #[.slice none 0 0, .int .i64 0, .int .i64 0, .slice none 0 0, .slice none 0 0] 24)) w.heap.size #[.slice (some ⟨bP, oP, none⟩) 3 cP, .int .i64 n, .int .i64 k, .slice (some ⟨bE, oE, none⟩) 2 cE, .slice (some ⟨bT, oT, none⟩) 2 cT] 24 := (Blk.new _ _ _ _ rfl).alloc _
      have r0 : Blk ((w.alloc (.cells #[.slice (some ⟨bP, oP, none⟩) 3 cP, .int .i64 n, .int .i64 k, .slice (some ⟨bE, oE, none⟩) 2 cE, .slice (some ⟨bT, oT, none⟩) 2 cT] 24)).alloc (.cells #[.slice none 0 0, .int .i64 0, .int .i64 0, .slice none 0 0, .slice none 0 0] 24)) (w.heap.size + 1) #[.slice none 0 0, .int .i64 0, .int .i64 0, .slice none 0 0, .slice none 0 0] 24 := Blk.new _ _ _ _ (by simp)
      have g0 : Grew w ((w.alloc (.cells #[.slice (some ⟨bP, oP, none⟩) 3 cP, .int .i64 n, .int .i64 k, .slice (some ⟨bE, oE, none⟩) 2 cE, .slice (some ⟨bT, oT, none⟩) 2 cT] 24)).alloc (.cells #[.slice none 0 0, .int .i64 0, .int .i64 0, .slice none 0 0, .slice none 0 0] 24)) := ((Grew.refl w).alloc _).alloc _
      have s0 := r0.lt
      generalize ((w.alloc (.cells #[.slice (some ⟨bP, oP, none⟩) 3 cP, .int .i64 n, .int .i64 k, .slice (some ⟨bE, oE, none⟩) 2 cE, .slice (some ⟨bT, oT, none⟩) 2 cT] 24)).alloc (.cells #[.slice none 0 0, .int .i64 0, .int .i64 0, .slice none 0 0, .slice none 0 0] 24)) = w0 at *
      have y0 := k0.cell 0
      have y1 := k0.cell 1
      have y2 := k0.cell 2
      have y3 := k0.cell 3
      have y4 := k0.cell 4
      go_wp2_with fail
      refine (HC.out _ g0).mono ?_
      rintro e w1 ⟨rfl, g1⟩
      clear y0 y1 y2 y3 y4
      have k1 := k0.grew g1
      have r1 := r0.grew g1
      have G1 := g0.trans g1
      clear k0 r0 g0 g1 HC
      have y0 := k1.cell 0
      have y1 := k1.cell 1
      have y2 := k1.cell 2
      have y3 := k1.cell 3
      have y4 := k1.cell 4
      have dE1 := ((gcell G1).1 bE (oE + 1) lE).trans cE1
      have u2 := k1.free 2
      go_upto_region 20 with fail
      have k3 := k1.set (o := 2) (.int .i64 (bits .andNot .i64 k 2))
      have r3 := r1.other (show w.heap.size + 1 ≠ w.heap.size by omega) (o := 2) (.int .i64 (bits .andNot .i64 k 2))
      have G3 := G1.setCell (b := w.heap.size) (o := 2) (Nat.le_refl _) (.int .i64 (bits .andNot .i64 k 2))
      clear u2 k1 r1 G1 dE1
      clear y0 y1 y2 y3 y4
      generalize w1.setCell ⟨w.heap.size, 2, none⟩ (.int .i64 (bits .andNot .i64 k 2)) = w3 at *
      have y0 := k3.cell 0
      have y1 := k3.cell 1
      have y2 := k3.cell 2
      have y3 := k3.cell 3
      have y4 := k3.cell 4
      have x0 := r3.cell 0
      have x1 := r3.cell 1
      have x2 := r3.cell 2
      have x3 := r3.cell 3
      have x4 := r3.cell 4
      have f0 := r3.free 0
      have f1 := r3.free 1
      have f2 := r3.free 2
      have f3 := r3.free 3
      have f4 := r3.free 4
      go_wp2_with fail
      clear x0 x1 x2 x3 x4 f0 f1 f2 f3 f4 y0 y1 y2 y3 y4
      have ky := (((((r3.set (o := 0) (.slice (some ⟨bP, oP, none⟩) 3 cP)).set (o := 1) (.int .i64 n)).set (o := 2) (.int .i64 (bits .andNot .i64 k 2))).set (o := 3) (.slice (some ⟨bE, oE, none⟩) 2 cE)).set (o := 4) (.slice (some ⟨bT, oT, none⟩) 2 cT))
      have gy := (((((G3.setCell (b := (w.heap.size + 1)) (o := 0) (by omega) (.slice (some ⟨bP, oP, none⟩) 3 cP)).setCell (b := (w.heap.size + 1)) (o := 1) (by omega) (.int .i64 n)).setCell (b := (w.heap.size + 1)) (o := 2) (by omega) (.int .i64 (bits .andNot .i64 k 2))).setCell (b := (w.heap.size + 1)) (o := 3) (by omega) (.slice (some ⟨bE, oE, none⟩) 2 cE)).setCell (b := (w.heap.size + 1)) (o := 4) (by omega) (.slice (some ⟨bT, oT, none⟩) 2 cT))
      generalize (((((w3.setCell ⟨(w.heap.size + 1), 0, none⟩ (.slice (some ⟨bP, oP, none⟩) 3 cP)).setCell ⟨(w.heap.size + 1), 1, none⟩ (.int .i64 n)).setCell ⟨(w.heap.size + 1), 2, none⟩ (.int .i64 (bits .andNot .i64 k 2))).setCell ⟨(w.heap.size + 1), 3, none⟩ (.slice (some ⟨bE, oE, none⟩) 2 cE)).setCell ⟨(w.heap.size + 1), 4, none⟩ (.slice (some ⟨bT, oT, none⟩) 2 cT)) = wy at *
      have z0 := ky.cell 0
      have z1 := ky.cell 1
      have z2 := ky.cell 2
      have z3 := ky.cell 3
      have z4 := ky.cell 4
      exact bodyPost_ret (v := .tuple #[.agg #[.slice (some ⟨bP, oP, none⟩) 3 cP, .int .i64 n, .int .i64 (bits .andNot .i64 k 2), .slice (some ⟨bE, oE, none⟩) 2 cE, .slice (some ⟨bT, oT, none⟩) 2 cT], .bool true]) (by simp [results, Try.results14, go_sem, z0, z1, z2, z3, z4]) rfl ⟨_, rfl, Lib.hid ⟨⟨_, _, _, rfl, HB1.out.grew gy, HB2.out.grew gy, HB3.out.grew gy⟩, HI.out.2.2.2.1, HI.out.2.2.2.2⟩, g.trans gy⟩
    · skip
      have hst : s.store 9 (x % 4294967296) = { s with k := s.k } := by
        have q : bits .and .i64 2 4 = 0 := by decide
        simp [VS.store, VS.back, VS.e, onlyV, hX, he, q, hk0]
        try (cases s; simp_all)
      rw [hst] at HI ⊢
      clear hst
      have HV := Lib.hid hb
      obtain ⟨vP, vE, vT, rfl, h1, h2, h3⟩ := hb.shape
      obtain ⟨bP, oP, cP, rfl, lP, hP⟩ := h1.at (by simp)
      obtain ⟨bE, oE, cE, rfl, lE, hE⟩ := h2.at (by simp)
      obtain ⟨bT, oT, cT, rfl, lT, hT⟩ := h3.at (by simp)
      have HB1 := Lib.hid h1
      have HB2 := Lib.hid h2
      have HB3 := Lib.hid h3
      clear h1 h2 h3 hb
      obtain ⟨p1, p2, n, k, e0, t0, e1, t1⟩ := s
      have cP0 : w.cell? ⟨bP, oP, none⟩ = some (.int .i64 0) := hP 0 (by simp)
      have cP1 : w.cell? ⟨bP, oP + 1, none⟩ = some (.int .i64 p1) := hP 1 (by simp)
      have cP2 : w.cell? ⟨bP, oP + 2, none⟩ = some (.int .i64 p2) := hP 2 (by simp)
      have cE0 : w.cell? ⟨bE, oE, none⟩ = some (.int .i64 e0) := hE 0 (by simp)
      have cE1 : w.cell? ⟨bE, oE + 1, none⟩ = some (.int .i64 e1) := hE 1 (by simp)
      have cT0 : w.cell? ⟨bT, oT, none⟩ = some (.int .i64 t0) := hT 0 (by simp)
      have cT1 : w.cell? ⟨bT, oT + 1, none⟩ = some (.int .i64 t1) := hT 1 (by simp)
      clear hP hE hT
      dsimp only [VS.ps] at HV HB1 HB2 HB3 ⊢
      simp only [List.length_cons, List.length_nil, Nat.zero_add, Nat.reduceAdd] at HV HB1 HB2 HB3 ⊢
      dsimp only at he
      subst he
      clear hk0 hz
      try clear hsrc
      have q : bits .and .i64 4 2 = 0 := by decide
      go_enter Try.func14, Try.ntmps14
      go_upto_region 1 with fail
      have k0 : Blk ((w.alloc (.cells #[.slice (some ⟨bP, oP, none⟩) 3 cP, .int .i64 n, .int .i64 k, .slice (some ⟨bE, oE, none⟩) 2 cE, .slice (some ⟨bT, oT, none⟩) 2 cT] 24)).alloc (.cells #[.slice none 0 0, .int .i64 0, .int .i64 0, .slice none 0 0, .slice none 0 0] 24)) w.heap.size #[.slice (some ⟨bP, oP, none⟩) 3 cP, .int .i64 n, .int .i64 k, .slice (some ⟨bE, oE, none⟩) 2 cE, .slice (some ⟨bT, oT, none⟩) 2 cT] 24 := (Blk.new _ _ _ _ rfl).alloc _
      have r0 : Blk ((w.alloc (.cells #[.slice (some ⟨bP, oP, none⟩) 3 cP, .int .i64 n, .int .i64 k, .slice (some ⟨bE, oE, none⟩) 2 cE, .slice (some ⟨bT, oT, none⟩) 2 cT] 24)).alloc (.cells #[.slice none 0 0, .int .i64 0, .int .i64 0, .slice none 0 0, .slice none 0 0] 24)) (w.heap.size + 1) #[.slice none 0 0, .int .i64 0, .int .i64 0, .slice none 0 0, .slice none 0 0] 24 := Blk.new _ _ _ _ (by simp)
      have g0 : Grew w ((w.alloc (.cells #[.slice (some ⟨bP, oP, none⟩) 3 cP, .int .i64 n, .int .i64 k, .slice (some ⟨bE, oE, none⟩) 2 cE, .slice (some ⟨bT, oT, none⟩) 2 cT] 24)).alloc (.cells #[.slice none 0 0, .int .i64 0, .int .i64 0, .slice none 0 0, .slice none 0 0] 24)) := ((Grew.refl w).alloc _).alloc _
      have s0 := r0.lt
      generalize ((w.alloc (.cells #[.slice (some ⟨bP, oP, none⟩) 3 cP, .int .i64 n, .int .i64 k, .slice (some ⟨bE, oE, none⟩) 2 cE, .slice (some ⟨bT, oT, none⟩) 2 cT] 24)).alloc (.cells #[.slice none 0 0, .int .i64 0, .int .i64 0, .slice none 0 0, .slice none 0 0] 24)) = w0 at *
      have y0 := k0.cell 0
      have y1 := k0.cell 1
      have y2 := k0.cell 2
      have y3 := k0.cell 3
      have y4 := k0.cell 4
      go_wp2_with fail
      refine (HC.out _ g0).mono ?_
      rintro e w1 ⟨rfl, g1⟩
      clear y0 y1 y2 y3 y4
      have k1 := k0.grew g1
      have r1 := r0.grew g1
      have G1 := g0.trans g1
      clear k0 r0 g0 g1 HC
      have y0 := k1.cell 0
      have y1 := k1.cell 1
      have y2 := k1.cell 2
      have y3 := k1.cell 3
      have y4 := k1.cell 4
      have dE1 := ((gcell G1).1 bE (oE + 1) lE).trans cE1
      have x0 := r1.cell 0
      have x1 := r1.cell 1
      have x2 := r1.cell 2
      have x3 := r1.cell 3
      have x4 := r1.cell 4
      have f0 := r1.free 0
      have f1 := r1.free 1
      have f2 := r1.free 2
      have f3 := r1.free 3
      have f4 := r1.free 4
      go_wp2_with fail
      clear x0 x1 x2 x3 x4 f0 f1 f2 f3 f4 y0 y1 y2 y3 y4
      have ky := (((((r1.set (o := 0) (.slice (some ⟨bP, oP, none⟩) 3 cP)).set (o := 1) (.int .i64 n)).set (o := 2) (.int .i64 k)).set (o := 3) (.slice (some ⟨bE, oE, none⟩) 2 cE)).set (o := 4) (.slice (some ⟨bT, oT, none⟩) 2 cT))
      have gy := (((((G1.setCell (b := (w.heap.size + 1)) (o := 0) (by omega) (.slice (some ⟨bP, oP, none⟩) 3 cP)).setCell (b := (w.heap.size + 1)) (o := 1) (by omega) (.int .i64 n)).setCell (b := (w.heap.size + 1)) (o := 2) (by omega) (.int .i64 k)).setCell (b := (w.heap.size + 1)) (o := 3) (by omega) (.slice (some ⟨bE, oE, none⟩) 2 cE)).setCell (b := (w.heap.size + 1)) (o := 4) (by omega) (.slice (some ⟨bT, oT, none⟩) 2 cT))
      generalize (((((w1.setCell ⟨(w.heap.size + 1), 0, none⟩ (.slice (some ⟨bP, oP, none⟩) 3 cP)).setCell ⟨(w.heap.size + 1), 1, none⟩ (.int .i64 n)).setCell ⟨(w.heap.size + 1), 2, none⟩ (.int .i64 k)).setCell ⟨(w.heap.size + 1), 3, none⟩ (.slice (some ⟨bE, oE, none⟩) 2 cE)).setCell ⟨(w.heap.size + 1), 4, none⟩ (.slice (some ⟨bT, oT, none⟩) 2 cT)) = wy at *
      have z0 := ky.cell 0
      have z1 := ky.cell 1
      have z2 := ky.cell 2
      have z3 := ky.cell 3
      have z4 := ky.cell 4
      exact bodyPost_ret (v := .tuple #[.agg #[.slice (some ⟨bP, oP, none⟩) 3 cP, .int .i64 n, .int .i64 k, .slice (some ⟨bE, oE, none⟩) 2 cE, .slice (some ⟨bT, oT, none⟩) 2 cT], .bool true]) (by simp [results, Try.results14, go_sem, z0, z1, z2, z3, z4]) rfl ⟨_, rfl, Lib.hid ⟨⟨_, _, _, rfl, HB1.out.grew gy, HB2.out.grew gy, HB3.out.grew gy⟩, HI.out.2.2.2.1, HI.out.2.2.2.2⟩, g.trans gy⟩
    · skip
      have hst : s.store 9 (x % 4294967296) = { s with k := bits .andNot .i64 s.k 2 } := by
        have q : bits .and .i64 2 6 = 2 := by decide
        simp [VS.store, VS.back, VS.e, onlyV, hX, he, q, hk0]
        try (cases s; simp_all)
      rw [hst] at HI ⊢
      clear hst
      have HV := Lib.hid hb
      obtain ⟨vP, vE, vT, rfl, h1, h2, h3⟩ := hb.shape
      obtain ⟨bP, oP, cP, rfl, lP, hP⟩ := h1.at (by simp)
      obtain ⟨bE, oE, cE, rfl, lE, hE⟩ := h2.at (by simp)
      obtain ⟨bT, oT, cT, rfl, lT, hT⟩ := h3.at (by simp)
      have HB1 := Lib.hid h1
      have HB2 := Lib.hid h2
      have HB3 := Lib.hid h3
      clear h1 h2 h3 hb
      obtain ⟨p1, p2, n, k, e0, t0, e1, t1⟩ := s
      have cP0 : w.cell? ⟨bP, oP, none⟩ = some (.int .i64 0) := hP 0 (by simp)
      have cP1 : w.cell? ⟨bP, oP + 1, none⟩ = some (.int .i64 p1) := hP 1 (by simp)
      have cP2 : w.cell? ⟨bP, oP + 2, none⟩ = some (.int .i64 p2) := hP 2 (by simp)
      have cE0 : w.cell? ⟨bE, oE, none⟩ = some (.int .i64 e0) := hE 0 (by simp)
      have cE1 : w.cell? ⟨bE, oE + 1, none⟩ = some (.int .i64 e1) := hE 1 (by simp)
      have cT0 : w.cell? ⟨bT, oT, none⟩ = some (.int .i64 t0) := hT 0 (by simp)
      have cT1 : w.cell? ⟨bT, oT + 1, none⟩ = some (.int .i64 t1) := hT 1 (by simp)
      clear hP hE hT
      dsimp only [VS.ps] at HV HB1 HB2 HB3 ⊢
      simp only [List.length_cons, List.length_nil, Nat.zero_add, Nat.reduceAdd] at HV HB1 HB2 HB3 ⊢
      dsimp only at he
      subst he
      clear hk0 hz
      try clear hsrc
      have q : bits .and .i64 6 2 = 2 := by decide
      go_enter Try.func14, Try.ntmps14
      go_upto_region 1 with fail
      have k0 : Blk ((w.alloc (.cells #[.slice (some ⟨bP, oP, none⟩) 3 cP, .int .i64 n, .int .i64 k, .slice (some ⟨bE, oE, none⟩) 2 cE, .slice (some ⟨bT, oT, none⟩) 2 cT] 24)).alloc (.cells #[.slice none 0 0, .int .i64 0, .int .i64 0, .slice none 0 0, .slice none 0 0] 24)) w.heap.size #[.slice (some ⟨bP, oP, none⟩) 3 cP, .int .i64 n, .int .i64 k, .slice (some ⟨bE, oE, none⟩) 2 cE, .slice (some ⟨bT, oT, none⟩) 2 cT] 24 := (Blk.new _ _ _ _ rfl).alloc _
      have r0 : Blk ((w.alloc (.cells #[.slice (some ⟨bP, oP, none⟩) 3 cP, .int .i64 n, .int .i64 k, .slice (some ⟨bE, oE, none⟩) 2 cE, .slice (some ⟨bT, oT, none⟩) 2 cT] 24)).alloc (.cells #[.slice none 0 0, .int .i64 0, .int .i64 0, .slice none 0 0, .slice none 0 0] 24)) (w.heap.size + 1) #[.slice none 0 0, .int .i64 0, .int .i64 0, .slice none 0 0, .slice none 0 0] 24 := Blk.new _ _ _ _ (by simp)
      have g0 : Grew w ((w.alloc (.cells #[.slice (some ⟨bP, oP, none⟩) 3 cP, .int .i64 n, .int .i64 k, .slice (some ⟨bE, oE, none⟩) 2 cE, .slice (some ⟨bT, oT, none⟩) 2 cT] 24)).alloc (.cells #[.slice none 0 0, .int .i64 0, .int .i64 0, .slice none 0 0, .slice none 0 0] 24)) := ((Grew.refl w).alloc _).alloc _
      have s0 := r0.lt
      generalize ((w.alloc (.cells #[.slice (some ⟨bP, oP, none⟩) 3 cP, .int .i64 n, .int .i64 k, .slice (some ⟨bE, oE, none⟩) 2 cE, .slice (some ⟨bT, oT, none⟩) 2 cT] 24)).alloc (.cells #[.slice none 0 0, .int .i64 0, .int .i64 0, .slice none 0 0, .slice none 0 0] 24)) = w0 at *
      have y0 := k0.cell 0
      have y1 := k0.cell 1
      have y2 := k0.cell 2
      have y3 := k0.cell 3
      have y4 := k0.cell 4
      go_wp2_with fail
      refine (HC.out _ g0).mono ?_
      rintro e w1 ⟨rfl, g1⟩
      clear y0 y1 y2 y3 y4
      have k1 := k0.grew g1
      have r1 := r0.grew g1
      have G1 := g0.trans g1
      clear k0 r0 g0 g1 HC
      have y0 := k1.cell 0
      have y1 := k1.cell 1
      have y2 := k1.cell 2
      have y3 := k1.cell 3
      have y4 := k1.cell 4
      have dE1 := ((gcell G1).1 bE (oE + 1) lE).trans cE1
      have u2 := k1.free 2
      go_upto_region 20 with fail
      have k3 := k1.set (o := 2) (.int .i64 (bits .andNot .i64 k 2))
      have r3 := r1.other (show w.heap.size + 1 ≠ w.heap.size by omega) (o := 2) (.int .i64 (bits .andNot .i64 k 2))
      have G3 := G1.setCell (b := w.heap.size) (o := 2) (Nat.le_refl _) (.int .i64 (bits .andNot .i64 k 2))
      clear u2 k1 r1 G1 dE1
      clear y0 y1 y2 y3 y4
      generalize w1.setCell ⟨w.heap.size, 2, none⟩ (.int .i64 (bits .andNot .i64 k 2)) = w3 at *
      have y0 := k3.cell 0
      have y1 := k3.cell 1
      have y2 := k3.cell 2
      have y3 := k3.cell 3
      have y4 := k3.cell 4
      have x0 := r3.cell 0
      have x1 := r3.cell 1
      have x2 := r3.cell 2
      have x3 := r3.cell 3
      have x4 := r3.cell 4
      have f0 := r3.free 0
      have f1 := r3.free 1
      have f2 := r3.free 2
      have f3 := r3.free 3
      have f4 := r3.free 4
      go_wp2_with fail
      clear x0 x1 x2 x3 x4 f0 f1 f2 f3 f4 y0 y1 y2 y3 y4
      have ky := (((((r3.set (o := 0) (.slice (some ⟨bP, oP, none⟩) 3 cP)).set (o := 1) (.int .i64 n)).set (o := 2) (.int .i64 (bits .andNot .i64 k 2))).set (o := 3) (.slice (some ⟨bE, oE, none⟩) 2 cE)).set (o := 4) (.slice (some ⟨bT, oT, none⟩) 2 cT))
      have gy := (((((G3.setCell (b := (w.heap.size + 1)) (o := 0) (by omega) (.slice (some ⟨bP, oP, none⟩) 3 cP)).setCell (b := (w.heap.size + 1)) (o := 1) (by omega) (.int .i64 n)).setCell (b := (w.heap.size + 1)) (o := 2) (by omega) (.int .i64 (bits .andNot .i64 k 2))).setCell (b := (w.heap.size + 1)) (o := 3) (by omega) (.slice (some ⟨bE, oE, none⟩) 2 cE)).setCell (b := (w.heap.size + 1)) (o := 4) (by omega) (.slice (some ⟨bT, oT, none⟩) 2 cT))
      generalize (((((w3.setCell ⟨(w.heap.size + 1), 0, none⟩ (.slice (some ⟨bP, oP, none⟩) 3 cP)).setCell ⟨(w.heap.size + 1), 1, none⟩ (.int .i64 n)).setCell ⟨(w.heap.size + 1), 2, none⟩ (.int .i64 (bits .andNot .i64 k 2))).setCell ⟨(w.heap.size + 1), 3, none⟩ (.slice (some ⟨bE, oE, none⟩) 2 cE)).setCell ⟨(w.heap.size + 1), 4, none⟩ (.slice (some ⟨bT, oT, none⟩) 2 cT)) = wy at *
      have z0 := ky.cell 0
      have z1 := ky.cell 1
      have z2 := ky.cell 2
      have z3 := ky.cell 3
      have z4 := ky.cell 4
      exact bodyPost_ret (v := .tuple #[.agg #[.slice (some ⟨bP, oP, none⟩) 3 cP, .int .i64 n, .int .i64 (bits .andNot .i64 k 2), .slice (some ⟨bE, oE, none⟩) 2 cE, .slice (some ⟨bT, oT, none⟩) 2 cT], .bool true]) (by simp [results, Try.results14, go_sem, z0, z1, z2, z3, z4]) rfl ⟨_, rfl, Lib.hid ⟨⟨_, _, _, rfl, HB1.out.grew gy, HB2.out.grew gy, HB3.out.grew gy⟩, HI.out.2.2.2.1, HI.out.2.2.2.2⟩, g.trans gy⟩
  have m1 : (x % 4294967296 == 1) = false := by simpa using hX
  have w1 := hX
  clear hX
  by_cases hX : x % 4294967296 = 2
  · rcases hsrc with he | he | he | he
    · skip
      have hst : s.store 9 (x % 4294967296) = { s with k := s.k } := by
        have q : bits .and .i64 4 0 = 0 := by decide
        simp [VS.store, VS.back, VS.e, onlyV, hX, he, q, hk0]
        try (cases s; simp_all)
      rw [hst] at HI ⊢
      clear hst
      have HV := Lib.hid hb
      obtain ⟨vP, vE, vT, rfl, h1, h2, h3⟩ := hb.shape
      obtain ⟨bP, oP, cP, rfl, lP, hP⟩ := h1.at (by simp)
      obtain ⟨bE, oE, cE, rfl, lE, hE⟩ := h2.at (by simp)
      obtain ⟨bT, oT, cT, rfl, lT, hT⟩ := h3.at (by simp)
      have HB1 := Lib.hid h1
      have HB2 := Lib.hid h2
      have HB3 := Lib.hid h3
      clear h1 h2 h3 hb
      obtain ⟨p1, p2, n, k, e0, t0, e1, t1⟩ := s
      have cP0 : w.cell? ⟨bP, oP, none⟩ = some (.int .i64 0) := hP 0 (by simp)
      have cP1 : w.cell? ⟨bP, oP + 1, none⟩ = some (.int .i64 p1) := hP 1 (by simp)
      have cP2 : w.cell? ⟨bP, oP + 2, none⟩ = some (.int .i64 p2) := hP 2 (by simp)
      have cE0 : w.cell? ⟨bE, oE, none⟩ = some (.int .i64 e0) := hE 0 (by simp)
      have cE1 : w.cell? ⟨bE, oE + 1, none⟩ = some (.int .i64 e1) := hE 1 (by simp)
      have cT0 : w.cell? ⟨bT, oT, none⟩ = some (.int .i64 t0) := hT 0 (by simp)
      have cT1 : w.cell? ⟨bT, oT + 1, none⟩ = some (.int .i64 t1) := hT 1 (by simp)
      clear hP hE hT
      dsimp only [VS.ps] at HV HB1 HB2 HB3 ⊢
      simp only [List.length_cons, List.length_nil, Nat.zero_add, Nat.reduceAdd] at HV HB1 HB2 HB3 ⊢
      dsimp only at he
      subst he
      clear hk0 hz
      try clear hsrc
      have q : bits .and .i64 0 4 = 0 := by decide
      go_enter Try.func14, Try.ntmps14
      go_upto_region 1 with fail
      have k0 : Blk ((w.alloc (.cells #[.slice (some ⟨bP, oP, none⟩) 3 cP, .int .i64 n, .int .i64 k, .slice (some ⟨bE, oE, none⟩) 2 cE, .slice (some ⟨bT, oT, none⟩) 2 cT] 24)).alloc (.cells #[.slice none 0 0, .int .i64 0, .int .i64 0, .slice none 0 0, .slice none 0 0] 24)) w.heap.size #[.slice (some ⟨bP, oP, none⟩) 3 cP, .int .i64 n, .int .i64 k, .slice (some ⟨bE, oE, none⟩) 2 cE, .slice (some ⟨bT, oT, none⟩) 2 cT] 24 := (Blk.new _ _ _ _ rfl).alloc _
      have r0 : Blk ((w.alloc (.cells #[.slice (some ⟨bP, oP, none⟩) 3 cP, .int .i64 n, .int .i64 k, .slice (some ⟨bE, oE, none⟩) 2 cE, .slice (some ⟨bT, oT, none⟩) 2 cT] 24)).alloc (.cells #[.slice none 0 0, .int .i64 0, .int .i64 0, .slice none 0 0, .slice none 0 0] 24)) (w.heap.size + 1) #[.slice none 0 0, .int .i64 0, .int .i64 0, .slice none 0 0, .slice none 0 0] 24 := Blk.new _ _ _ _ (by simp)
      have g0 : Grew w ((w.alloc (.cells #[.slice (some ⟨bP, oP, none⟩) 3 cP, .int .i64 n, .int .i64 k, .slice (some ⟨bE, oE, none⟩) 2 cE, .slice (some ⟨bT, oT, none⟩) 2 cT] 24)).alloc (.cells #[.slice none 0 0, .int .i64 0, .int .i64 0, .slice none 0 0, .slice none 0 0] 24)) := ((Grew.refl w).alloc _).alloc _
      have s0 := r0.lt
      generalize ((w.alloc (.cells #[.slice (some ⟨bP, oP, none⟩) 3 cP, .int .i64 n, .int .i64 k, .slice (some ⟨bE, oE, none⟩) 2 cE, .slice (some ⟨bT, oT, none⟩) 2 cT] 24)).alloc (.cells #[.slice none 0 0, .int .i64 0, .int .i64 0, .slice none 0 0, .slice none 0 0] 24)) = w0 at *
      have y0 := k0.cell 0
      have y1 := k0.cell 1
      have y2 := k0.cell 2
      have y3 := k0.cell 3
      have y4 := k0.cell 4
      go_wp2_with fail
      refine (HC.out _ g0).mono ?_
      rintro e w1 ⟨rfl, g1⟩
      clear y0 y1 y2 y3 y4
      have k1 := k0.grew g1
      have r1 := r0.grew g1
      have G1 := g0.trans g1
      clear k0 r0 g0 g1 HC
      have y0 := k1.cell 0
      have y1 := k1.cell 1
      have y2 := k1.cell 2
      have y3 := k1.cell 3
      have y4 := k1.cell 4
      have dE1 := ((gcell G1).1 bE (oE + 1) lE).trans cE1
      have x0 := r1.cell 0
      have x1 := r1.cell 1
      have x2 := r1.cell 2
      have x3 := r1.cell 3
      have x4 := r1.cell 4
      have f0 := r1.free 0
      have f1 := r1.free 1
      have f2 := r1.free 2
      have f3 := r1.free 3
      have f4 := r1.free 4
      go_wp2_with fail
      clear x0 x1 x2 x3 x4 f0 f1 f2 f3 f4 y0 y1 y2 y3 y4
      have ky := (((((r1.set (o := 0) (.slice (some ⟨bP, oP, none⟩) 3 cP)).set (o := 1) (.int .i64 n)).set (o := 2) (.int .i64 k)).set (o := 3) (.slice (some ⟨bE, oE, none⟩) 2 cE)).set (o := 4) (.slice (some ⟨bT, oT, none⟩) 2 cT))
      have gy := (((((G1.setCell (b := (w.heap.size + 1)) (o := 0) (by omega) (.slice (some ⟨bP, oP, none⟩) 3 cP)).setCell (b := (w.heap.size + 1)) (o := 1) (by omega) (.int .i64 n)).setCell (b := (w.heap.size + 1)) (o := 2) (by omega) (.int .i64 k)).setCell (b := (w.heap.size + 1)) (o := 3) (by omega) (.slice (some ⟨bE, oE, none⟩) 2 cE)).setCell (b := (w.heap.size + 1)) (o := 4) (by omega) (.slice (some ⟨bT, oT, none⟩) 2 cT))
      generalize (((((w1.setCell ⟨(w.heap.size + 1), 0, none⟩ (.slice (some ⟨bP, oP, none⟩) 3 cP)).setCell ⟨(w.heap.size + 1), 1, none⟩ (.int .i64 n)).setCell ⟨(w.heap.size + 1), 2, none⟩ (.int .i64 k)).setCell ⟨(w.heap.size + 1), 3, none⟩ (.slice (some ⟨bE, oE, none⟩) 2 cE)).setCell ⟨(w.heap.size + 1), 4, none⟩ (.slice (some ⟨bT, oT, none⟩) 2 cT)) = wy at *
      have z0 := ky.cell 0
      have z1 := ky.cell 1
      have z2 := ky.cell 2
      have z3 := ky.cell 3
      have z4 := ky.cell 4
      exact bodyPost_ret (v := .tuple #[.agg #[.slice (some ⟨bP, oP, none⟩) 3 cP, .int .i64 n, .int .i64 k, .slice (some ⟨bE, oE, none⟩) 2 cE, .slice (some ⟨bT, oT, none⟩) 2 cT], .bool true]) (by simp [results, Try.results14, go_sem, z0, z1, z2, z3, z4]) rfl ⟨_, rfl, Lib.hid ⟨⟨_, _, _, rfl, HB1.out.grew gy, HB2.out.grew gy, HB3.out.grew gy⟩, HI.out.2.2.2.1, HI.out.2.2.2.2⟩, g.trans gy⟩
    · skip
      have hst : s.store 9 (x % 4294967296) = { s with k := s.k } := by
        have q : bits .and .i64 4 2 = 0 := by decide
        simp [VS.store, VS.back, VS.e, onlyV, hX, he, q, hk0]
        try (cases s; simp_all)
      rw [hst] at HI ⊢
      clear hst
      have HV := Lib.hid hb
      obtain ⟨vP, vE, vT, rfl, h1, h2, h3⟩ := hb.shape
      obtain ⟨bP, oP, cP, rfl, lP, hP⟩ := h1.at (by simp)
      obtain ⟨bE, oE, cE, rfl, lE, hE⟩ := h2.at (by simp)
      obtain ⟨bT, oT, cT, rfl, lT, hT⟩ := h3.at (by simp)
      have HB1 := Lib.hid h1
      have HB2 := Lib.hid h2
      have HB3 := Lib.hid h3
      clear h1 h2 h3 hb
      obtain ⟨p1, p2, n, k, e0, t0, e1, t1⟩ := s
      have cP0 : w.cell? ⟨bP, oP, none⟩ = some (.int .i64 0) := hP 0 (by simp)
      have cP1 : w.cell? ⟨bP, oP + 1, none⟩ = some (.int .i64 p1) := hP 1 (by simp)
      have cP2 : w.cell? ⟨bP, oP + 2, none⟩ = some (.int .i64 p2) := hP 2 (by simp)
      have cE0 : w.cell? ⟨bE, oE, none⟩ = some (.int .i64 e0) := hE 0 (by simp)
      have cE1 : w.cell? ⟨bE, oE + 1, none⟩ = some (.int .i64 e1) := hE 1 (by simp)
      have cT0 : w.cell? ⟨bT, oT, none⟩ = some (.int .i64 t0) := hT 0 (by simp)
      have cT1 : w.cell? ⟨bT, oT + 1, none⟩ = some (.int .i64 t1) := hT 1 (by simp)
      clear hP hE hT
      dsimp only [VS.ps] at HV HB1 HB2 HB3 ⊢
      simp only [List.length_cons, List.length_nil, Nat.zero_add, Nat.reduceAdd] at HV HB1 HB2 HB3 ⊢
      dsimp only at he
      subst he
      clear hk0 hz
      try clear hsrc
      have q : bits .and .i64 2 4 = 0 := by decide
      go_enter Try.func14, Try.ntmps14
      go_upto_region 1 with fail
      have k0 : Blk ((w.alloc (.cells #[.slice (some ⟨bP, oP, none⟩) 3 cP, .int .i64 n, .int .i64 k, .slice (some ⟨bE, oE, none⟩) 2 cE, .slice (some ⟨bT, oT, none⟩) 2 cT] 24)).alloc (.cells #[.slice none 0 0, .int .i64 0, .int .i64 0, .slice none 0 0, .slice none 0 0] 24)) w.heap.size #[.slice (some ⟨bP, oP, none⟩) 3 cP, .int .i64 n, .int .i64 k, .slice (some ⟨bE, oE, none⟩) 2 cE, .slice (some ⟨bT, oT, none⟩) 2 cT] 24 := (Blk.new _ _ _ _ rfl).alloc _
      have r0 : Blk ((w.alloc (.cells #[.slice (some ⟨bP, oP, none⟩) 3 cP, .int .i64 n, .int .i64 k, .slice (some ⟨bE, oE, none⟩) 2 cE, .slice (some ⟨bT, oT, none⟩) 2 cT] 24)).alloc (.cells #[.slice none 0 0, .int .i64 0, .int .i64 0, .slice none 0 0, .slice none 0 0] 24)) (w.heap.size + 1) #[.slice none 0 0, .int .i64 0, .int .i64 0, .slice none 0 0, .slice none 0 0] 24 := Blk.new _ _ _ _ (by simp)
      have g0 : Grew w ((w.alloc (.cells #[.slice (some ⟨bP, oP, none⟩) 3 cP, .int .i64 n, .int .i64 k, .slice (some ⟨bE, oE, none⟩) 2 cE, .slice (some ⟨bT, oT, none⟩) 2 cT] 24)).alloc (.cells #[.slice none 0 0, .int .i64 0, .int .i64 0, .slice none 0 0, .slice none 0 0] 24)) := ((Grew.refl w).alloc _).alloc _
      have s0 := r0.lt
      generalize ((w.alloc (.cells #[.slice (some ⟨bP, oP, none⟩) 3 cP, .int .i64 n, .int .i64 k, .slice (some ⟨bE, oE, none⟩) 2 cE, .slice (some ⟨bT, oT, none⟩) 2 cT] 24)).alloc (.cells #[.slice none 0 0, .int .i64 0, .int .i64 0, .slice none 0 0, .slice none 0 0] 24)) = w0 at *
      have y0 := k0.cell 0
      have y1 := k0.cell 1
      have y2 := k0.cell 2
      have y3 := k0.cell 3
      have y4 := k0.cell 4
      go_wp2_with fail
      refine (HC.out _ g0).mono ?_
      rintro e w1 ⟨rfl, g1⟩
      clear y0 y1 y2 y3 y4
      have k1 := k0.grew g1
      have r1 := r0.grew g1
      have G1 := g0.trans g1
      clear k0 r0 g0 g1 HC
      have y0 := k1.cell 0
      have y1 := k1.cell 1
      have y2 := k1.cell 2
      have y3 := k1.cell 3
      have y4 := k1.cell 4
      have dE1 := ((gcell G1).1 bE (oE + 1) lE).trans cE1
      have x0 := r1.cell 0
      have x1 := r1.cell 1
      have x2 := r1.cell 2
      have x3 := r1.cell 3
      have x4 := r1.cell 4
      have f0 := r1.free 0
      have f1 := r1.free 1
      have f2 := r1.free 2
      have f3 := r1.free 3
      have f4 := r1.free 4
      go_wp2_with fail
      clear x0 x1 x2 x3 x4 f0 f1 f2 f3 f4 y0 y1 y2 y3 y4
      have ky := (((((r1.set (o := 0) (.slice (some ⟨bP, oP, none⟩) 3 cP)).set (o := 1) (.int .i64 n)).set (o := 2) (.int .i64 k)).set (o := 3) (.slice (some ⟨bE, oE, none⟩) 2 cE)).set (o := 4) (.slice (some ⟨bT, oT, none⟩) 2 cT))
      have gy := (((((G1.setCell (b := (w.heap.size + 1)) (o := 0) (by omega) (.slice (some ⟨bP, oP, none⟩) 3 cP)).setCell (b := (w.heap.size + 1)) (o := 1) (by omega) (.int .i64 n)).setCell (b := (w.heap.size + 1)) (o := 2) (by omega) (.int .i64 k)).setCell (b := (w.heap.size + 1)) (o := 3) (by omega) (.slice (some ⟨bE, oE, none⟩) 2 cE)).setCell (b := (w.heap.size + 1)) (o := 4) (by omega) (.slice (some ⟨bT, oT, none⟩) 2 cT))
      generalize (((((w1.setCell ⟨(w.heap.size + 1), 0, none⟩ (.slice (some ⟨bP, oP, none⟩) 3 cP)).setCell ⟨(w.heap.size + 1), 1, none⟩ (.int .i64 n)).setCell ⟨(w.heap.size + 1), 2, none⟩ (.int .i64 k)).setCell ⟨(w.heap.size + 1), 3, none⟩ (.slice (some ⟨bE, oE, none⟩) 2 cE)).setCell ⟨(w.heap.size + 1), 4, none⟩ (.slice (some ⟨bT, oT, none⟩) 2 cT)) = wy at *
      have z0 := ky.cell 0
      have z1 := ky.cell 1
      have z2 := ky.cell 2
      have z3 := ky.cell 3
      have z4 := ky.cell 4
      exact bodyPost_ret (v := .tuple #[.agg #[.slice (some ⟨bP, oP, none⟩) 3 cP, .int .i64 n, .int .i64 k, .slice (some ⟨bE, oE, none⟩) 2 cE, .slice (some ⟨bT, oT, none⟩) 2 cT], .bool true]) (by simp [results, Try.results14, go_sem, z0, z1, z2, z3, z4]) rfl ⟨_, rfl, Lib.hid ⟨⟨_, _, _, rfl, HB1.out.grew gy, HB2.out.grew gy, HB3.out.grew gy⟩, HI.out.2.2.2.1, HI.out.2.2.2.2⟩, g.trans gy⟩
    · skip
      have hst : s.store 9 (x % 4294967296) = { s with k := bits .andNot .i64 s.k 4 } := by
        have q : bits .and .i64 4 4 = 4 := by decide
        simp [VS.store, VS.back, VS.e, onlyV, hX, he, q, hk0]
        try (cases s; simp_all)
      rw [hst] at HI ⊢
      clear hst
      have HV := Lib.hid hb
      obtain ⟨vP, vE, vT, rfl, h1, h2, h3⟩ := hb.shape
      obtain ⟨bP, oP, cP, rfl, lP, hP⟩ := h1.at (by simp)
      obtain ⟨bE, oE, cE, rfl, lE, hE⟩ := h2.at (by simp)
      obtain ⟨bT, oT, cT, rfl, lT, hT⟩ := h3.at (by simp)
      have HB1 := Lib.hid h1
      have HB2 := Lib.hid h2
      have HB3 := Lib.hid h3
      clear h1 h2 h3 hb
      obtain ⟨p1, p2, n, k, e0, t0, e1, t1⟩ := s
      have cP0 : w.cell? ⟨bP, oP, none⟩ = some (.int .i64 0) := hP 0 (by simp)
      have cP1 : w.cell? ⟨bP, oP + 1, none⟩ = some (.int .i64 p1) := hP 1 (by simp)
      have cP2 : w.cell? ⟨bP, oP + 2, none⟩ = some (.int .i64 p2) := hP 2 (by simp)
      have cE0 : w.cell? ⟨bE, oE, none⟩ = some (.int .i64 e0) := hE 0 (by simp)
      have cE1 : w.cell? ⟨bE, oE + 1, none⟩ = some (.int .i64 e1) := hE 1 (by simp)
      have cT0 : w.cell? ⟨bT, oT, none⟩ = some (.int .i64 t0) := hT 0 (by simp)
      have cT1 : w.cell? ⟨bT, oT + 1, none⟩ = some (.int .i64 t1) := hT 1 (by simp)
      clear hP hE hT
      dsimp only [VS.ps] at HV HB1 HB2 HB3 ⊢
      simp only [List.length_cons, List.length_nil, Nat.zero_add, Nat.reduceAdd] at HV HB1 HB2 HB3 ⊢
      dsimp only at he
      subst he
      clear hk0 hz
      try clear hsrc
      have q : bits .and .i64 4 4 = 4 := by decide
      go_enter Try.func14, Try.ntmps14
      go_upto_region 1 with fail
      have k0 : Blk ((w.alloc (.cells #[.slice (some ⟨bP, oP, none⟩) 3 cP, .int .i64 n, .int .i64 k, .slice (some ⟨bE, oE, none⟩) 2 cE, .slice (some ⟨bT, oT, none⟩) 2 cT] 24)).alloc (.cells #[.slice none 0 0, .int .i64 0, .int .i64 0, .slice none 0 0, .slice none 0 0] 24)) w.heap.size #[.slice (some ⟨bP, oP, none⟩) 3 cP, .int .i64 n, .int .i64 k, .slice (some ⟨bE, oE, none⟩) 2 cE, .slice (some ⟨bT, oT, none⟩) 2 cT] 24 := (Blk.new _ _ _ _ rfl).alloc _
      have r0 : Blk ((w.alloc (.cells #[.slice (some ⟨bP, oP, none⟩) 3 cP, .int .i64 n, .int .i64 k, .slice (some ⟨bE, oE, none⟩) 2 cE, .slice (some ⟨bT, oT, none⟩) 2 cT] 24)).alloc (.cells #[.slice none 0 0, .int .i64 0, .int .i64 0, .slice none 0 0, .slice none 0 0] 24)) (w.heap.size + 1) #[.slice none 0 0, .int .i64 0, .int .i64 0, .slice none 0 0, .slice none 0 0] 24 := Blk.new _ _ _ _ (by simp)
      have g0 : Grew w ((w.alloc (.cells #[.slice (some ⟨bP, oP, none⟩) 3 cP, .int .i64 n, .int .i64 k, .slice (some ⟨bE, oE, none⟩) 2 cE, .slice (some ⟨bT, oT, none⟩) 2 cT] 24)).alloc (.cells #[.slice none 0 0, .int .i64 0, .int .i64 0, .slice none 0 0, .slice none 0 0] 24)) := ((Grew.refl w).alloc _).alloc _
      have s0 := r0.lt
      generalize ((w.alloc (.cells #[.slice (some ⟨bP, oP, none⟩) 3 cP, .int .i64 n, .int .i64 k, .slice (some ⟨bE, oE, none⟩) 2 cE, .slice (some ⟨bT, oT, none⟩) 2 cT] 24)).alloc (.cells #[.slice none 0 0, .int .i64 0, .int .i64 0, .slice none 0 0, .slice none 0 0] 24)) = w0 at *
      have y0 := k0.cell 0
      have y1 := k0.cell 1
      have y2 := k0.cell 2
      have y3 := k0.cell 3
      have y4 := k0.cell 4
      go_wp2_with fail
      refine (HC.out _ g0).mono ?_
      rintro e w1 ⟨rfl, g1⟩
      clear y0 y1 y2 y3 y4
      have k1 := k0.grew g1
      have r1 := r0.grew g1
      have G1 := g0.trans g1
      clear k0 r0 g0 g1 HC
      have y0 := k1.cell 0
      have y1 := k1.cell 1
      have y2 := k1.cell 2
      have y3 := k1.cell 3
      have y4 := k1.cell 4
      have dE1 := ((gcell G1).1 bE (oE + 1) lE).trans cE1
      have u2 := k1.free 2
      go_upto_region 20 with fail
      have k3 := k1.set (o := 2) (.int .i64 (bits .andNot .i64 k 4))
      have r3 := r1.other (show w.heap.size + 1 ≠ w.heap.size by omega) (o := 2) (.int .i64 (bits .andNot .i64 k 4))
      have G3 := G1.setCell (b := w.heap.size) (o := 2) (Nat.le_refl _) (.int .i64 (bits .andNot .i64 k 4))
      clear u2 k1 r1 G1 dE1
      clear y0 y1 y2 y3 y4
      generalize w1.setCell ⟨w.heap.size, 2, none⟩ (.int .i64 (bits .andNot .i64 k 4)) = w3 at *
      have y0 := k3.cell 0
      have y1 := k3.cell 1
      have y2 := k3.cell 2
      have y3 := k3.cell 3
      have y4 := k3.cell 4
      have x0 := r3.cell 0
      have x1 := r3.cell 1
      have x2 := r3.cell 2
      have x3 := r3.cell 3
      have x4 := r3.cell 4
      have f0 := r3.free 0
      have f1 := r3.free 1
      have f2 := r3.free 2
      have f3 := r3.free 3
      have f4 := r3.free 4
      go_wp2_with fail
      clear x0 x1 x2 x3 x4 f0 f1 f2 f3 f4 y0 y1 y2 y3 y4
      have ky := (((((r3.set (o := 0) (.slice (some ⟨bP, oP, none⟩) 3 cP)).set (o := 1) (.int .i64 n)).set (o := 2) (.int .i64 (bits .andNot .i64 k 4))).set (o := 3) (.slice (some ⟨bE, oE, none⟩) 2 cE)).set (o := 4) (.slice (some ⟨bT, oT, none⟩) 2 cT))
      have gy := (((((G3.setCell (b := (w.heap.size + 1)) (o := 0) (by omega) (.slice (some ⟨bP, oP, none⟩) 3 cP)).setCell (b := (w.heap.size + 1)) (o := 1) (by omega) (.int .i64 n)).setCell (b := (w.heap.size + 1)) (o := 2) (by omega) (.int .i64 (bits .andNot .i64 k 4))).setCell (b := (w.heap.size + 1)) (o := 3) (by omega) (.slice (some ⟨bE, oE, none⟩) 2 cE)).setCell (b := (w.heap.size + 1)) (o := 4) (by omega) (.slice (some ⟨bT, oT, none⟩) 2 cT))
      generalize (((((w3.setCell ⟨(w.heap.size + 1), 0, none⟩ (.slice (some ⟨bP, oP, none⟩) 3 cP)).setCell ⟨(w.heap.size + 1), 1, none⟩ (.int .i64 n)).setCell ⟨(w.heap.size + 1), 2, none⟩ (.int .i64 (bits .andNot .i64 k 4))).setCell ⟨(w.heap.size + 1), 3, none⟩ (.slice (some ⟨bE, oE, none⟩) 2 cE)).setCell ⟨(w.heap.size + 1), 4, none⟩ (.slice (some ⟨bT, oT, none⟩) 2 cT)) = wy at *
      have z0 := ky.cell 0
      have z1 := ky.cell 1
      have z2 := ky.cell 2
      have z3 := ky.cell 3
      have z4 := ky.cell 4
      exact bodyPost_ret (v := .tuple #[.agg #[.slice (some ⟨bP, oP, none⟩) 3 cP, .int .i64 n, .int .i64 (bits .andNot .i64 k 4), .slice (some ⟨bE, oE, none⟩) 2 cE, .slice (some ⟨bT, oT, none⟩) 2 cT], .bool true]) (by simp [results, Try.results14, go_sem, z0, z1, z2, z3, z4]) rfl ⟨_, rfl, Lib.hid ⟨⟨_, _, _, rfl, HB1.out.grew gy, HB2.out.grew gy, HB3.out.grew gy⟩, HI.out.2.2.2.1, HI.out.2.2.2.2⟩, g.trans gy⟩
    · skip
      have hst : s.store 9 (x % 4294967296) = { s with k := bits .andNot .i64 s.k 4 } := by
        have q : bits .and .i64 4 6 = 4 := by decide
        simp [VS.store, VS.back, VS.e, onlyV, hX, he, q, hk0]
        try (cases s; simp_all)
      rw [hst] at HI ⊢
      clear hst
      have HV := Lib.hid hb
      obtain ⟨vP, vE, vT, rfl, h1, h2, h3⟩ := hb.shape
      obtain ⟨bP, oP, cP, rfl, lP, hP⟩ := h1.at (by simp)
      obtain ⟨bE, oE, cE, rfl, lE, hE⟩ := h2.at (by simp)
      obtain ⟨bT, oT, cT, rfl, lT, hT⟩ := h3.at (by simp)
      have HB1 := Lib.hid h1
      have HB2 := Lib.hid h2
      have HB3 := Lib.hid h3
      clear h1 h2 h3 hb
      obtain ⟨p1, p2, n, k, e0, t0, e1, t1⟩ := s
      have cP0 : w.cell? ⟨bP, oP, none⟩ = some (.int .i64 0) := hP 0 (by simp)
      have cP1 : w.cell? ⟨bP, oP + 1, none⟩ = some (.int .i64 p1) := hP 1 (by simp)
      have cP2 : w.cell? ⟨bP, oP + 2, none⟩ = some (.int .i64 p2) := hP 2 (by simp)
      have cE0 : w.cell? ⟨bE, oE, none⟩ = some (.int .i64 e0) := hE 0 (by simp)
      have cE1 : w.cell? ⟨bE, oE + 1, none⟩ = some (.int .i64 e1) := hE 1 (by simp)
      have cT0 : w.cell? ⟨bT, oT, none⟩ = some (.int .i64 t0) := hT 0 (by simp)
      have cT1 : w.cell? ⟨bT, oT + 1, none⟩ = some (.int .i64 t1) := hT 1 (by simp)
      clear hP hE hT
      dsimp only [VS.ps] at HV HB1 HB2 HB3 ⊢
      simp only [List.length_cons, List.length_nil, Nat.zero_add, Nat.reduceAdd] at HV HB1 HB2 HB3 ⊢
      dsimp only at he
      subst he
      clear hk0 hz
      try clear hsrc
      have q : bits .and .i64 6 4 = 4 := by decide
      go_enter Try.func14, Try.ntmps14
      go_upto_region 1 with fail
      have k0 : Blk ((w.alloc (.cells #[.slice (some ⟨bP, oP, none⟩) 3 cP, .int .i64 n, .int .i64 k, .slice (some ⟨bE, oE, none⟩) 2 cE, .slice (some ⟨bT, oT, none⟩) 2 cT] 24)).alloc (.cells #[.slice none 0 0, .int .i64 0, .int .i64 0, .slice none 0 0, .slice none 0 0] 24)) w.heap.size #[.slice (some ⟨bP, oP, none⟩) 3 cP, .int .i64 n, .int .i64 k, .slice (some ⟨bE, oE, none⟩) 2 cE, .slice (some ⟨bT, oT, none⟩) 2 cT] 24 := (Blk.new _ _ _ _ rfl).alloc _
      have r0 : Blk ((w.alloc (.cells #[.slice (some ⟨bP, oP, none⟩) 3 cP, .int .i64 n, .int .i64 k, .slice (some ⟨bE, oE, none⟩) 2 cE, .slice (some ⟨bT, oT, none⟩) 2 cT] 24)).alloc (.cells #[.slice none 0 0, .int .i64 0, .int .i64 0, .slice none 0 0, .slice none 0 0] 24)) (w.heap.size + 1) #[.slice none 0 0, .int .i64 0, .int .i64 0, .slice none 0 0, .slice none 0 0] 24 := Blk.new _ _ _ _ (by simp)
      have g0 : Grew w ((w.alloc (.cells #[.slice (some ⟨bP, oP, none⟩) 3 cP, .int .i64 n, .int .i64 k, .slice (some ⟨bE, oE, none⟩) 2 cE, .slice (some ⟨bT, oT, none⟩) 2 cT] 24)).alloc (.cells #[.slice none 0 0, .int .i64 0, .int .i64 0, .slice none 0 0, .slice none 0 0] 24)) := ((Grew.refl w).alloc _).alloc _
      have s0 := r0.lt
      generalize ((w.alloc (.cells #[.slice (some ⟨bP, oP, none⟩) 3 cP, .int .i64 n, .int .i64 k, .slice (some ⟨bE, oE, none⟩) 2 cE, .slice (some ⟨bT, oT, none⟩) 2 cT] 24)).alloc (.cells #[.slice none 0 0, .int .i64 0, .int .i64 0, .slice none 0 0, .slice none 0 0] 24)) = w0 at *
      have y0 := k0.cell 0
      have y1 := k0.cell 1
      have y2 := k0.cell 2
      have y3 := k0.cell 3
      have y4 := k0.cell 4
      go_wp2_with fail
      refine (HC.out _ g0).mono ?_
      rintro e w1 ⟨rfl, g1⟩
      clear y0 y1 y2 y3 y4
      have k1 := k0.grew g1
      have r1 := r0.grew g1
      have G1 := g0.trans g1
      clear k0 r0 g0 g1 HC
      have y0 := k1.cell 0
      have y1 := k1.cell 1
      have y2 := k1.cell 2
      have y3 := k1.cell 3
      have y4 := k1.cell 4
      have dE1 := ((gcell G1).1 bE (oE + 1) lE).trans cE1
      have u2 := k1.free 2
      go_upto_region 20 with fail
      have k3 := k1.set (o := 2) (.int .i64 (bits .andNot .i64 k 4))
      have r3 := r1.other (show w.heap.size + 1 ≠ w.heap.size by omega) (o := 2) (.int .i64 (bits .andNot .i64 k 4))
      have G3 := G1.setCell (b := w.heap.size) (o := 2) (Nat.le_refl _) (.int .i64 (bits .andNot .i64 k 4))
      clear u2 k1 r1 G1 dE1
      clear y0 y1 y2 y3 y4
      generalize w1.setCell ⟨w.heap.size, 2, none⟩ (.int .i64 (bits .andNot .i64 k 4)) = w3 at *
      have y0 := k3.cell 0
      have y1 := k3.cell 1
      have y2 := k3.cell 2
      have y3 := k3.cell 3
      have y4 := k3.cell 4
      have x0 := r3.cell 0
      have x1 := r3.cell 1
      have x2 := r3.cell 2
      have x3 := r3.cell 3
      have x4 := r3.cell 4
      have f0 := r3.free 0
      have f1 := r3.free 1
      have f2 := r3.free 2
      have f3 := r3.free 3
      have f4 := r3.free 4
      go_wp2_with fail
      clear x0 x1 x2 x3 x4 f0 f1 f2 f3 f4 y0 y1 y2 y3 y4
      have ky := (((((r3.set (o := 0) (.slice (some ⟨bP, oP, none⟩) 3 cP)).set (o := 1) (.int .i64 n)).set (o := 2) (.int .i64 (bits .andNot .i64 k 4))).set (o := 3) (.slice (some ⟨bE, oE, none⟩) 2 cE)).set (o := 4) (.slice (some ⟨bT, oT, none⟩) 2 cT))
      have gy := (((((G3.setCell (b := (w.heap.size + 1)) (o := 0) (by omega) (.slice (some ⟨bP, oP, none⟩) 3 cP)).setCell (b := (w.heap.size + 1)) (o := 1) (by omega) (.int .i64 n)).setCell (b := (w.heap.size + 1)) (o := 2) (by omega) (.int .i64 (bits .andNot .i64 k 4))).setCell (b := (w.heap.size + 1)) (o := 3) (by omega) (.slice (some ⟨bE, oE, none⟩) 2 cE)).setCell (b := (w.heap.size + 1)) (o := 4) (by omega) (.slice (some ⟨bT, oT, none⟩) 2 cT))
      generalize (((((w3.setCell ⟨(w.heap.size + 1), 0, none⟩ (.slice (some ⟨bP, oP, none⟩) 3 cP)).setCell ⟨(w.heap.size + 1), 1, none⟩ (.int .i64 n)).setCell ⟨(w.heap.size + 1), 2, none⟩ (.int .i64 (bits .andNot .i64 k 4))).setCell ⟨(w.heap.size + 1), 3, none⟩ (.slice (some ⟨bE, oE, none⟩) 2 cE)).setCell ⟨(w.heap.size + 1), 4, none⟩ (.slice (some ⟨bT, oT, none⟩) 2 cT)) = wy at *
      have z0 := ky.cell 0
      have z1 := ky.cell 1
      have z2 := ky.cell 2
      have z3 := ky.cell 3
      have z4 := ky.cell 4
      exact bodyPost_ret (v := .tuple #[.agg #[.slice (some ⟨bP, oP, none⟩) 3 cP, .int .i64 n, .int .i64 (bits .andNot .i64 k 4), .slice (some ⟨bE, oE, none⟩) 2 cE, .slice (some ⟨bT, oT, none⟩) 2 cT], .bool true]) (by simp [results, Try.results14, go_sem, z0, z1, z2, z3, z4]) rfl ⟨_, rfl, Lib.hid ⟨⟨_, _, _, rfl, HB1.out.grew gy, HB2.out.grew gy, HB3.out.grew gy⟩, HI.out.2.2.2.1, HI.out.2.2.2.2⟩, g.trans gy⟩
  have m2 : (x % 4294967296 == 2) = false := by simpa using hX
  have w2 := hX
  clear hX
  have hst : s.store 9 (x % 4294967296) = s := by
    have q := hz _ rfl
    simp [VS.store, VS.back, onlyV, w1, w2, q, hk0]
  rw [hst] at HI ⊢
  clear hst w1 w2
  have HV := Lib.hid hb
  obtain ⟨vP, vE, vT, rfl, h1, h2, h3⟩ := hb.shape
  obtain ⟨bP, oP, cP, rfl, lP, hP⟩ := h1.at (by simp)
  obtain ⟨bE, oE, cE, rfl, lE, hE⟩ := h2.at (by simp)
  obtain ⟨bT, oT, cT, rfl, lT, hT⟩ := h3.at (by simp)
  have HB1 := Lib.hid h1
  have HB2 := Lib.hid h2
  have HB3 := Lib.hid h3
  clear h1 h2 h3 hb
  obtain ⟨p1, p2, n, k, e0, t0, e1, t1⟩ := s
  have cP0 : w.cell? ⟨bP, oP, none⟩ = some (.int .i64 0) := hP 0 (by simp)
  have cP1 : w.cell? ⟨bP, oP + 1, none⟩ = some (.int .i64 p1) := hP 1 (by simp)
  have cP2 : w.cell? ⟨bP, oP + 2, none⟩ = some (.int .i64 p2) := hP 2 (by simp)
  have cE0 : w.cell? ⟨bE, oE, none⟩ = some (.int .i64 e0) := hE 0 (by simp)
  have cE1 : w.cell? ⟨bE, oE + 1, none⟩ = some (.int .i64 e1) := hE 1 (by simp)
  have cT0 : w.cell? ⟨bT, oT, none⟩ = some (.int .i64 t0) := hT 0 (by simp)
  have cT1 : w.cell? ⟨bT, oT + 1, none⟩ = some (.int .i64 t1) := hT 1 (by simp)
  clear hP hE hT
  dsimp only [VS.ps] at HV HB1 HB2 HB3 ⊢
  simp only [List.length_cons, List.length_nil, Nat.zero_add, Nat.reduceAdd] at HV HB1 HB2 HB3 ⊢
  clear hk0 hz
  try clear hsrc
  go_enter Try.func14, Try.ntmps14
  go_upto_region 1 with fail
  have k0 : Blk ((w.alloc (.cells #[.slice (some ⟨bP, oP, none⟩) 3 cP, .int .i64 n, .int .i64 k, .slice (some ⟨bE, oE, none⟩) 2 cE, .slice (some ⟨bT, oT, none⟩) 2 cT] 24)).alloc (.cells #[.slice none 0 0, .int .i64 0, .int .i64 0, .slice none 0 0, .slice none 0 0] 24)) w.heap.size #[.slice (some ⟨bP, oP, none⟩) 3 cP, .int .i64 n, .int .i64 k, .slice (some ⟨bE, oE, none⟩) 2 cE, .slice (some ⟨bT, oT, none⟩) 2 cT] 24 := (Blk.new _ _ _ _ rfl).alloc _
  have r0 : Blk ((w.alloc (.cells #[.slice (some ⟨bP, oP, none⟩) 3 cP, .int .i64 n, .int .i64 k, .slice (some ⟨bE, oE, none⟩) 2 cE, .slice (some ⟨bT, oT, none⟩) 2 cT] 24)).alloc (.cells #[.slice none 0 0, .int .i64 0, .int .i64 0, .slice none 0 0, .slice none 0 0] 24)) (w.heap.size + 1) #[.slice none 0 0, .int .i64 0, .int .i64 0, .slice none 0 0, .slice none 0 0] 24 := Blk.new _ _ _ _ (by simp)
  have g0 : Grew w ((w.alloc (.cells #[.slice (some ⟨bP, oP, none⟩) 3 cP, .int .i64 n, .int .i64 k, .slice (some ⟨bE, oE, none⟩) 2 cE, .slice (some ⟨bT, oT, none⟩) 2 cT] 24)).alloc (.cells #[.slice none 0 0, .int .i64 0, .int .i64 0, .slice none 0 0, .slice none 0 0] 24)) := ((Grew.refl w).alloc _).alloc _
  have s0 := r0.lt
  generalize ((w.alloc (.cells #[.slice (some ⟨bP, oP, none⟩) 3 cP, .int .i64 n, .int .i64 k, .slice (some ⟨bE, oE, none⟩) 2 cE, .slice (some ⟨bT, oT, none⟩) 2 cT] 24)).alloc (.cells #[.slice none 0 0, .int .i64 0, .int .i64 0, .slice none 0 0, .slice none 0 0] 24)) = w0 at *
  have y0 := k0.cell 0
  have y1 := k0.cell 1
  have y2 := k0.cell 2
  have y3 := k0.cell 3
  have y4 := k0.cell 4
  go_wp2_with fail
  refine (HC.out _ g0).mono ?_
  rintro e w1 ⟨rfl, g1⟩
  clear y0 y1 y2 y3 y4
  have k1 := k0.grew g1
  have r1 := r0.grew g1
  have G1 := g0.trans g1
  clear k0 r0 g0 g1 HC
  have y0 := k1.cell 0
  have y1 := k1.cell 1
  have y2 := k1.cell 2
  have y3 := k1.cell 3
  have y4 := k1.cell 4
  have dE1 := ((gcell G1).1 bE (oE + 1) lE).trans cE1
  have x0 := r1.cell 0
  have x1 := r1.cell 1
  have x2 := r1.cell 2
  have x3 := r1.cell 3
  have x4 := r1.cell 4
  have f0 := r1.free 0
  have f1 := r1.free 1
  have f2 := r1.free 2
  have f3 := r1.free 3
  have f4 := r1.free 4
  go_wp2_with fail
  clear x0 x1 x2 x3 x4 f0 f1 f2 f3 f4 y0 y1 y2 y3 y4
  have ky := (((((r1.set (o := 0) (.slice (some ⟨bP, oP, none⟩) 3 cP)).set (o := 1) (.int .i64 n)).set (o := 2) (.int .i64 k)).set (o := 3) (.slice (some ⟨bE, oE, none⟩) 2 cE)).set (o := 4) (.slice (some ⟨bT, oT, none⟩) 2 cT))
  have gy := (((((G1.setCell (b := (w.heap.size + 1)) (o := 0) (by omega) (.slice (some ⟨bP, oP, none⟩) 3 cP)).setCell (b := (w.heap.size + 1)) (o := 1) (by omega) (.int .i64 n)).setCell (b := (w.heap.size + 1)) (o := 2) (by omega) (.int .i64 k)).setCell (b := (w.heap.size + 1)) (o := 3) (by omega) (.slice (some ⟨bE, oE, none⟩) 2 cE)).setCell (b := (w.heap.size + 1)) (o := 4) (by omega) (.slice (some ⟨bT, oT, none⟩) 2 cT))
  generalize (((((w1.setCell ⟨(w.heap.size + 1), 0, none⟩ (.slice (some ⟨bP, oP, none⟩) 3 cP)).setCell ⟨(w.heap.size + 1), 1, none⟩ (.int .i64 n)).setCell ⟨(w.heap.size + 1), 2, none⟩ (.int .i64 k)).setCell ⟨(w.heap.size + 1), 3, none⟩ (.slice (some ⟨bE, oE, none⟩) 2 cE)).setCell ⟨(w.heap.size + 1), 4, none⟩ (.slice (some ⟨bT, oT, none⟩) 2 cT)) = wy at *
  have z0 := ky.cell 0
  have z1 := ky.cell 1
  have z2 := ky.cell 2
  have z3 := ky.cell 3
  have z4 := ky.cell 4
  exact bodyPost_ret (v := .tuple #[.agg #[.slice (some ⟨bP, oP, none⟩) 3 cP, .int .i64 n, .int .i64 k, .slice (some ⟨bE, oE, none⟩) 2 cE, .slice (some ⟨bT, oT, none⟩) 2 cT], .bool true]) (by simp [results, Try.results14, go_sem, z0, z1, z2, z3, z4]) rfl ⟨_, rfl, Lib.hid ⟨⟨_, _, _, rfl, HB1.out.grew gy, HB2.out.grew gy, HB3.out.grew gy⟩, HI.out.2.2.2.1, HI.out.2.2.2.2⟩, g.trans gy⟩
theorem refStore_yes {v : Value} {s : VS} (hs : s.Ok) (off x : Int) (hx0 : 0 ≤ x) (hx1 : x < 18446744073709551616) (hr : regAt off ≠ 0) {W w : World} (hb : Pl w v s.ps) (g : Grew W w) :
    Calls Try.prog 14 #[v, .int .u64 off, .int .i64 4, .int .u64 x] w fun e w' => ∃ v', e = .returned (.tuple #[v', .bool true]) ∧ Hid (Pl w' v' (s.store (regAt off) (x % 4294967296)).ps) ∧ Grew W w' := by
  by_cases h1 : off = 4
  · subst h1; exact refStore_1 hs x hx0 hx1 hb g
  by_cases h2 : off = 8
  · subst h2; exact refStore_2 hs x hx0 hx1 hb g
  by_cases h3 : off = 4096
  · subst h3; exact refStore_3 hs x hx0 hx1 hb g
  by_cases h4 : off = 8192
  · subst h4; exact refStore_4 hs x hx0 hx1 hb g
  by_cases h5 : off = 8320
  · subst h5; exact refStore_5 hs x hx0 hx1 hb g
  by_cases h6 : off = 2097152
  · subst h6; exact refStore_6 hs x hx0 hx1 hb g
  by_cases h7 : off = 2101248
  · subst h7; exact refStore_7 hs x hx0 hx1 hb g
  by_cases h8 : off = 2097156
  · subst h8; exact refStore_8 hs x hx0 hx1 hb g
  by_cases h9 : off = 2101252
  · subst h9; exact refStore_9 hs x hx0 hx1 hb g
  exfalso
  apply hr
  unfold regAt
  rw [if_neg h1, if_neg h2, if_neg h3, if_neg h4, if_neg h5, if_neg h6, if_neg h7, if_neg h8, if_neg h9]
end Go.Proofs.Ytpanecflmoebiaa
