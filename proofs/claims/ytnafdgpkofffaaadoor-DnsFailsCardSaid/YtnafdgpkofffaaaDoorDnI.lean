/-
  Package dns: the question of a message, of all bytes.
-/
import Derived.Test.YtnafdgpkofffaaaDoorDnE
set_option maxRecDepth 4000
set_option linter.unusedVariables false
set_option linter.unusedSimpArgs false
namespace Go.Proofs.YtnafdgpkofffaaaDoor
open Go.RowKit

theorem q_short (a : Option Addr) (n c : Nat) (h : ¬ 12 ≤ n) (w : World) :
    Calls Tryd.prog 23 #[.slice a n c] w fun e w' => ∃ n s, e = .returned (.tuple #[.agg #[.string ⟨#[]⟩, .int .i64 0, .int .i64 0], .iface 62 (.agg #[.int .i64 160, .int .i64 n, .string s])]) ∧ Grew w w' := by
  have HH := Lib.hid (fun w => hasHead_c a n c w)
  rw [decide_eq_false h] at HH
  clear h
  go_enter Tryd.func23, Tryd.ntmps23
  go_upto_region 1 with fail
  have hR : Blk (w.alloc (.cells #[.string ⟨#[]⟩, .int .i64 0, .int .i64 0] 49)) w.heap.size #[.string ⟨#[]⟩, .int .i64 0, .int .i64 0] 49 := Blk.new _ _ _ _ rfl
  have g0 : Grew w (w.alloc (.cells #[.string ⟨#[]⟩, .int .i64 0, .int .i64 0] 49)) := (Grew.refl _).alloc _
  generalize (w.alloc (.cells #[.string ⟨#[]⟩, .int .i64 0, .int .i64 0] 49)) = w0 at *
  generalize hlR : w.heap.size = R at *
  go_wp2_with fail
  refine (HH.out _).mono ?_
  rintro e wx ⟨rfl, h9⟩
  obtain rfl := h9.symm
  have x0 := hR.cell 0
  have q0 := hR.free 0
  have x1 := hR.cell 1
  have q1 := hR.free 1
  have x2 := hR.cell 2
  have q2 := hR.free 2
  go_wp2_with fail
  have E := (((hR.set (o := 0) (.string ⟨#[]⟩)).set (o := 1) (.int .i64 0)).set (o := 2) (.int .i64 0))
  have GE := (((g0.setCell (b := R) (o := 0) (by omega) (.string ⟨#[]⟩)).setCell (b := R) (o := 1) (by omega) (.int .i64 0)).setCell (b := R) (o := 2) (by omega) (.int .i64 0))
  have z0 := E.cell 0
  have z1 := E.cell 1
  have z2 := E.cell 2
  exact bodyPost_ret (v := .tuple #[.agg #[.string ⟨#[]⟩, .int .i64 0, .int .i64 0], .iface 62 (.agg #[.int .i64 160, .int .i64 (n : Int), .string ⟨#[116, 104, 101, 32, 104, 101, 97, 100, 32, 101, 110, 100, 115, 32, 116, 111, 111, 32, 115, 111, 111, 110]⟩])]) (by simp [results, Tryd.results23, go_sem, z0, z1, z2]) rfl ⟨_, _, rfl, GE⟩
theorem q_form {a : Option Addr} {n c : Nat} {xs : List Int} (h : 12 ≤ n) {w : World} (hb : Buf w (.slice a n c) xs) (h1 : (getV (cutL xs 4 6) true != 1) = true) :
    Calls Tryd.prog 23 #[.slice a n c] w fun e w' => ∃ n s, e = .returned (.tuple #[.agg #[.string ⟨#[]⟩, .int .i64 0, .int .i64 0], .iface 62 (.agg #[.int .i64 161, .int .i64 n, .string s])]) ∧ Grew w w' := by
  have hn := hb.lenEq.1
  have HH := Lib.hid (fun w => hasHead_c a n c w)
  rw [decide_eq_true h] at HH
  have HP := Lib.hid (fun w' (g : Grew w w') => pairAt_c 4 4 6 rfl rfl (by omega) w' (hb.grew g))
  generalize getV (cutL xs 4 6) true = y at *
  clear hb hn h
  go_enter Tryd.func23, Tryd.ntmps23
  go_upto_region 1 with fail
  have hR : Blk (w.alloc (.cells #[.string ⟨#[]⟩, .int .i64 0, .int .i64 0] 49)) w.heap.size #[.string ⟨#[]⟩, .int .i64 0, .int .i64 0] 49 := Blk.new _ _ _ _ rfl
  have g0 : Grew w (w.alloc (.cells #[.string ⟨#[]⟩, .int .i64 0, .int .i64 0] 49)) := (Grew.refl _).alloc _
  generalize (w.alloc (.cells #[.string ⟨#[]⟩, .int .i64 0, .int .i64 0] 49)) = w0 at *
  generalize hlR : w.heap.size = R at *
  go_wp2_with fail
  refine (HH.out _).mono ?_
  rintro e wx ⟨rfl, h9⟩
  obtain rfl := h9.symm
  go_wp2_with fail
  refine (HP.out _ g0).mono ?_
  rintro e wx ⟨rfl, h9⟩
  obtain rfl := h9.symm
  have x0 := hR.cell 0
  have q0 := hR.free 0
  have x1 := hR.cell 1
  have q1 := hR.free 1
  have x2 := hR.cell 2
  have q2 := hR.free 2
  go_wp2_with fail
  have E := (((hR.set (o := 0) (.string ⟨#[]⟩)).set (o := 1) (.int .i64 0)).set (o := 2) (.int .i64 0))
  have GE := (((g0.setCell (b := R) (o := 0) (by omega) (.string ⟨#[]⟩)).setCell (b := R) (o := 1) (by omega) (.int .i64 0)).setCell (b := R) (o := 2) (by omega) (.int .i64 0))
  have z0 := E.cell 0
  have z1 := E.cell 1
  have z2 := E.cell 2
  exact bodyPost_ret (v := .tuple #[.agg #[.string ⟨#[]⟩, .int .i64 0, .int .i64 0], .iface 62 (.agg #[.int .i64 161, .int .i64 4, .string ⟨#[116, 104, 105, 115, 32, 116, 101, 108, 108, 115, 32, 111, 102, 32, 110, 111, 110, 101, 44, 32, 111, 114, 32, 111, 102, 32, 115, 101, 118, 101, 114, 97, 108]⟩])]) (by simp [results, Tryd.results23, go_sem, z0, z1, z2]) rfl ⟨_, _, rfl, GE⟩
set_option maxHeartbeats 1000000 in
theorem q_lab {a : Option Addr} {n c : Nat} {xs : List Int} (h : 12 ≤ n) (hl : xs.length ≤ 140737488355328) {w : World} (hb : Buf w (.slice a n c) xs) (h1 : (getV (cutL xs 4 6) true != 1) = false) (h2 : (namV xs 12).2.2 ≠ 0) :
    Calls Tryd.prog 23 #[.slice a n c] w fun e w' => ∃ n s, e = .returned (.tuple #[.agg #[.string ⟨#[]⟩, .int .i64 0, .int .i64 0], .iface 62 (.agg #[.int .i64 (namV xs 12).2.2, .int .i64 n, .string s])]) ∧ Grew w w' := by
  have hn := hb.lenEq.1
  have HH := Lib.hid (fun w => hasHead_c a n c w)
  rw [decide_eq_true h] at HH
  have HP := Lib.hid (fun w' (g : Grew w w') => pairAt_c 4 4 6 rfl rfl (by omega) w' (hb.grew g))
  have HL := Lib.hid (fun w' (g : Grew w w') => labelsIn_c (by omega) hl (hb.grew g) _ rfl)
  have H2 := Lib.hid h2
  clear h2
  generalize getV (cutL xs 4 6) true = y at *
  generalize namV xs 12 = Q at *
  clear hb hn h
  go_enter Tryd.func23, Tryd.ntmps23
  go_upto_region 1 with fail
  have hR : Blk (w.alloc (.cells #[.string ⟨#[]⟩, .int .i64 0, .int .i64 0] 49)) w.heap.size #[.string ⟨#[]⟩, .int .i64 0, .int .i64 0] 49 := Blk.new _ _ _ _ rfl
  have g0 : Grew w (w.alloc (.cells #[.string ⟨#[]⟩, .int .i64 0, .int .i64 0] 49)) := (Grew.refl _).alloc _
  generalize (w.alloc (.cells #[.string ⟨#[]⟩, .int .i64 0, .int .i64 0] 49)) = w0 at *
  generalize hlR : w.heap.size = R at *
  go_wp2_with fail
  refine (HH.out _).mono ?_
  rintro e wx ⟨rfl, h9⟩
  obtain rfl := h9.symm
  go_wp2_with fail
  refine (HP.out _ g0).mono ?_
  rintro e wx ⟨rfl, h9⟩
  obtain rfl := h9.symm
  go_wp2_with fail
  refine (HL.out _ g0).mono ?_
  rintro e w1 (⟨h9, _⟩ | ⟨_, n1, s1, rfl, g1⟩)
  · exact absurd h9 H2.out
  have hR1 := hR.grew g1
  have G1 := g0.trans g1
  have x0 := hR1.cell 0
  have q0 := hR1.free 0
  have x1 := hR1.cell 1
  have q1 := hR1.free 1
  have x2 := hR1.cell 2
  have q2 := hR1.free 2
  go_wp2_with fail
  have E := (((hR1.set (o := 0) (.string ⟨#[]⟩)).set (o := 1) (.int .i64 0)).set (o := 2) (.int .i64 0))
  have GE := (((G1.setCell (b := R) (o := 0) (by omega) (.string ⟨#[]⟩)).setCell (b := R) (o := 1) (by omega) (.int .i64 0)).setCell (b := R) (o := 2) (by omega) (.int .i64 0))
  have z0 := E.cell 0
  have z1 := E.cell 1
  have z2 := E.cell 2
  exact bodyPost_ret (v := .tuple #[.agg #[.string ⟨#[]⟩, .int .i64 0, .int .i64 0], .iface 62 (.agg #[.int .i64 Q.2.2, .int .i64 n1, .string s1])]) (by simp [results, Tryd.results23, go_sem, z0, z1, z2]) rfl ⟨_, _, rfl, GE⟩
set_option maxHeartbeats 2000000 in
theorem q_tail {a : Option Addr} {n c : Nat} {xs : List Int} (h : 12 ≤ n) (hl : xs.length ≤ 140737488355328) {w : World} (hb : Buf w (.slice a n c) xs) (h1 : (getV (cutL xs 4 6) true != 1) = false) (h2 : (namV xs 12).2.2 = 0) (h3 : (xs.length : Int) < (namV xs 12).2.1 + 4) :
    Calls Tryd.prog 23 #[.slice a n c] w fun e w' => ∃ n s, e = .returned (.tuple #[.agg #[.string ⟨#[]⟩, .int .i64 0, .int .i64 0], .iface 62 (.agg #[.int .i64 160, .int .i64 n, .string s])]) ∧ Grew w w' := by
  have hn := hb.lenEq.1
  have HH := Lib.hid (fun w => hasHead_c a n c w)
  rw [decide_eq_true h] at HH
  have HP := Lib.hid (fun w' (g : Grew w w') => pairAt_c 4 4 6 rfl rfl (by omega) w' (hb.grew g))
  have hna := namV_at h2
  have HL := Lib.hid (fun w' (g : Grew w w') => labelsIn_c (by omega) hl (hb.grew g) _ rfl)
  obtain ⟨q, hq⟩ : ∃ q : Nat, (namV xs 12).2.1 = (q : Int) := ⟨(namV xs 12).2.1.toNat, by omega⟩
  rw [hq] at h3 hna 
  have HQ := Lib.hid hq
  have H2 := Lib.hid h2
  clear h2 hq
  generalize getV (cutL xs 4 6) true = y at *
  generalize namV xs 12 = Q at *
  rw [← hn] at h3 hna hl
  clear hb hn h
  go_enter Tryd.func23, Tryd.ntmps23
  go_upto_region 1 with fail
  have hR : Blk (w.alloc (.cells #[.string ⟨#[]⟩, .int .i64 0, .int .i64 0] 49)) w.heap.size #[.string ⟨#[]⟩, .int .i64 0, .int .i64 0] 49 := Blk.new _ _ _ _ rfl
  have g0 : Grew w (w.alloc (.cells #[.string ⟨#[]⟩, .int .i64 0, .int .i64 0] 49)) := (Grew.refl _).alloc _
  generalize (w.alloc (.cells #[.string ⟨#[]⟩, .int .i64 0, .int .i64 0] 49)) = w0 at *
  generalize hlR : w.heap.size = R at *
  go_wp2_with fail
  refine (HH.out _).mono ?_
  rintro e wx ⟨rfl, h9⟩
  obtain rfl := h9.symm
  go_wp2_with fail
  refine (HP.out _ g0).mono ?_
  rintro e wx ⟨rfl, h9⟩
  obtain rfl := h9.symm
  go_wp2_with fail
  refine (HL.out _ g0).mono ?_
  rintro e w1 (⟨_, u, LL, rfl, hrd, hlo, hasc, hmany, hlen, g1⟩ | ⟨h9, _⟩)
  rotate_left
  · exact absurd H2.out h9
  rw [HQ.out]
  have hR1 := hR.grew g1
  have G1 := g0.trans g1
  have HRD := Lib.hid hrd
  have HLO := Lib.hid hlo
  have HASC := Lib.hid hasc
  have HMANY := Lib.hid hmany
  have HLEN := Lib.hid hlen
  clear hrd hlo hasc hmany hlen
  have x0 := hR1.cell 0
  have q0 := hR1.free 0
  have x1 := hR1.cell 1
  have q1 := hR1.free 1
  have x2 := hR1.cell 2
  have q2 := hR1.free 2
  go_wp2_with fail
  have E := (((hR1.set (o := 0) (.string ⟨#[]⟩)).set (o := 1) (.int .i64 0)).set (o := 2) (.int .i64 0))
  have GE := (((G1.setCell (b := R) (o := 0) (by omega) (.string ⟨#[]⟩)).setCell (b := R) (o := 1) (by omega) (.int .i64 0)).setCell (b := R) (o := 2) (by omega) (.int .i64 0))
  have z0 := E.cell 0
  have z1 := E.cell 1
  have z2 := E.cell 2
  exact bodyPost_ret (v := .tuple #[.agg #[.string ⟨#[]⟩, .int .i64 0, .int .i64 0], .iface 62 (.agg #[.int .i64 160, .int .i64 (n : Int), .string ⟨#[119, 104, 97, 116, 32, 102, 111, 108, 108, 111, 119, 115, 32, 116, 104, 101, 32, 108, 97, 98, 101, 108, 115, 32, 101, 110, 100, 115, 32, 116, 111, 111, 32, 115, 111, 111, 110]⟩])]) (by simp [results, Tryd.results23, go_sem, z0, z1, z2]) rfl ⟨_, _, rfl, GE⟩
set_option maxHeartbeats 2000000 in
theorem q_ok {a : Option Addr} {n c : Nat} {xs : List Int} (h : 12 ≤ n) (hl : xs.length ≤ 140737488355328) {w : World} (hb : Buf w (.slice a n c) xs) (h1 : (getV (cutL xs 4 6) true != 1) = false) (h2 : (namV xs 12).2.2 = 0) (h3 : ¬ (xs.length : Int) < (namV xs 12).2.1 + 4) :
    Calls Tryd.prog 23 #[.slice a n c] w fun e w' => e = .returned (.tuple #[.agg #[.string (strOfNums (namV xs 12).1), .int .i64 (getV (cutL xs (namV xs 12).2.1.toNat ((namV xs 12).2.1.toNat + 2)) true), .int .i64 ((namV xs 12).2.1 + 4)], .nilIface]) ∧ Grew w w' := by
  have hn := hb.lenEq.1
  have HH := Lib.hid (fun w => hasHead_c a n c w)
  rw [decide_eq_true h] at HH
  have HP := Lib.hid (fun w' (g : Grew w w') => pairAt_c 4 4 6 rfl rfl (by omega) w' (hb.grew g))
  have hna := namV_at h2
  have HL := Lib.hid (fun w' (g : Grew w w') => labelsIn_c (by omega) hl (hb.grew g) _ rfl)
  obtain ⟨q, hq⟩ : ∃ q : Nat, (namV xs 12).2.1 = (q : Int) := ⟨(namV xs 12).2.1.toNat, by omega⟩
  rw [hq] at h3 hna ⊢
  rw [Int.toNat_natCast]
  have HP2 := Lib.hid (fun w' (g : Grew w w') => pairAt_c q q (q + 2) rfl rfl (by omega) w' (hb.grew g))
  have HQ := Lib.hid hq
  have H2 := Lib.hid h2
  clear h2 hq
  generalize getV (cutL xs 4 6) true = y at *
  generalize getV (cutL xs q (q + 2)) true = kd at *
  generalize namV xs 12 = Q at *
  rw [← hn] at h3 hna hl
  clear hb hn h
  go_enter Tryd.func23, Tryd.ntmps23
  go_upto_region 1 with fail
  have hR : Blk (w.alloc (.cells #[.string ⟨#[]⟩, .int .i64 0, .int .i64 0] 49)) w.heap.size #[.string ⟨#[]⟩, .int .i64 0, .int .i64 0] 49 := Blk.new _ _ _ _ rfl
  have g0 : Grew w (w.alloc (.cells #[.string ⟨#[]⟩, .int .i64 0, .int .i64 0] 49)) := (Grew.refl _).alloc _
  generalize (w.alloc (.cells #[.string ⟨#[]⟩, .int .i64 0, .int .i64 0] 49)) = w0 at *
  generalize hlR : w.heap.size = R at *
  go_wp2_with fail
  refine (HH.out _).mono ?_
  rintro e wx ⟨rfl, h9⟩
  obtain rfl := h9.symm
  go_wp2_with fail
  refine (HP.out _ g0).mono ?_
  rintro e wx ⟨rfl, h9⟩
  obtain rfl := h9.symm
  go_wp2_with fail
  refine (HL.out _ g0).mono ?_
  rintro e w1 (⟨_, u, LL, rfl, hrd, hlo, hasc, hmany, hlen, g1⟩ | ⟨h9, _⟩)
  rotate_left
  · exact absurd H2.out h9
  rw [HQ.out]
  have hR1 := hR.grew g1
  have G1 := g0.trans g1
  have HRD := Lib.hid hrd
  have HLO := Lib.hid hlo
  have HASC := Lib.hid hasc
  have HMANY := Lib.hid hmany
  have HLEN := Lib.hid hlen
  clear hrd hlo hasc hmany hlen
  go_wp2_with fail
  refine (join_c HRD.out (by have := HMANY.out; omega) (by have := HLEN.out; omega)).mono ?_
  rintro e w2 ⟨rfl, g2⟩
  go_wp2_with fail
  refine (low_c HASC.out (by have := HLEN.out; omega) _).mono ?_
  rintro e w3 ⟨rfl, g3⟩
  rw [HLO.out]
  have G3 := (G1.trans g2).trans g3
  go_wp2_with fail
  refine (HP2.out _ G3).mono ?_
  rintro e wx ⟨rfl, h9⟩
  obtain rfl := h9.symm
  have hR3 := (hR1.grew g2).grew g3
  have x0 := hR3.cell 0
  have q0 := hR3.free 0
  have x1 := hR3.cell 1
  have q1 := hR3.free 1
  have x2 := hR3.cell 2
  have q2 := hR3.free 2
  go_wp2_with fail
  have E := (((hR3.set (o := 0) (.string (strOfNums Q.1))).set (o := 1) (.int .i64 kd)).set (o := 2) (.int .i64 ((q : Int) + 4)))
  have GE := (((G3.setCell (b := R) (o := 0) (by omega) (.string (strOfNums Q.1))).setCell (b := R) (o := 1) (by omega) (.int .i64 kd)).setCell (b := R) (o := 2) (by omega) (.int .i64 ((q : Int) + 4)))
  have z0 := E.cell 0
  have z1 := E.cell 1
  have z2 := E.cell 2
  exact bodyPost_ret (v := .tuple #[.agg #[.string (strOfNums Q.1), .int .i64 kd, .int .i64 ((q : Int) + 4)], .nilIface]) (by simp [results, Tryd.results23, go_sem, z0, z1, z2]) rfl ⟨rfl, GE⟩
theorem questionIn_c {v : Value} {xs : List Int} (hl : xs.length ≤ 140737488355328) {w : World} (hb : Buf w v xs) :
    Calls Tryd.prog 23 #[v] w fun e w' => ∃ u, e = .returned (.tuple #[.agg #[.string (strOfNums (qsV xs).1), .int .i64 (qsV xs).2.1, .int .i64 (qsV xs).2.2.1], u]) ∧ (((qsV xs).2.2.2 = 0 ∧ u = .nilIface) ∨ ((qsV xs).2.2.2 ≠ 0 ∧ ∃ n s, u = .iface 62 (.agg #[.int .i64 (qsV xs).2.2.2, .int .i64 n, .string s]))) ∧ Grew w w' := by
  obtain ⟨a, c, rfl, _, _⟩ := hb.shape
  have no : ∀ {k : Int}, qsV xs = ([], 0, 0, k) → k ≠ 0 → (Calls Tryd.prog 23 #[.slice a xs.length c] w fun e w' => ∃ n s, e = .returned (.tuple #[.agg #[.string ⟨#[]⟩, .int .i64 0, .int .i64 0], .iface 62 (.agg #[.int .i64 k, .int .i64 n, .string s])]) ∧ Grew w w') → Calls Tryd.prog 23 #[.slice a xs.length c] w fun e w' => ∃ u, e = .returned (.tuple #[.agg #[.string (strOfNums (qsV xs).1), .int .i64 (qsV xs).2.1, .int .i64 (qsV xs).2.2.1], u]) ∧ (((qsV xs).2.2.2 = 0 ∧ u = .nilIface) ∨ ((qsV xs).2.2.2 ≠ 0 ∧ ∃ n s, u = .iface 62 (.agg #[.int .i64 (qsV xs).2.2.2, .int .i64 n, .string s]))) ∧ Grew w w' := fun hk h0 h => by
    rw [hk]
    exact h.mono fun _ _ ⟨n, s, he, g⟩ => ⟨_, he, .inr ⟨h0, n, s, rfl⟩, g⟩
  by_cases h12 : 12 ≤ xs.length
  · cases h1 : (getV (cutL xs 4 6) true != 1)
    · have h1' : ¬ getV (cutL xs 4 6) true ≠ 1 := by simpa using h1
      by_cases h2 : (namV xs 12).2.2 = 0
      · by_cases h3 : (xs.length : Int) < (namV xs 12).2.1 + 4
        · exact no (by unfold qsV; rw [if_neg (by omega), if_neg h1', if_neg (by simpa using h2), if_pos h3]) (by decide) (q_tail h12 hl hb h1 h2 h3)
        · have e : qsV xs = ((namV xs 12).1, getV (cutL xs (namV xs 12).2.1.toNat ((namV xs 12).2.1.toNat + 2)) true, (namV xs 12).2.1 + 4, 0) := by unfold qsV; rw [if_neg (by omega), if_neg h1', if_neg (by simpa using h2), if_neg h3]
          rw [e]
          exact (q_ok h12 hl hb h1 h2 h3).mono fun _ _ ⟨he, g⟩ => ⟨_, he, .inl ⟨rfl, rfl⟩, g⟩
      · exact no (by unfold qsV; rw [if_neg (by omega), if_neg h1', if_pos h2]) h2 (q_lab h12 hl hb h1 h2)
    · have h1' : getV (cutL xs 4 6) true ≠ 1 := by simpa using h1
      exact no (by unfold qsV; rw [if_neg (by omega), if_pos h1']) (by decide) (q_form h12 hb h1)
  · exact no (by unfold qsV; rw [if_pos (by omega)]) (by decide) (q_short a _ c h12 w)
set_option maxHeartbeats 1000000 in
theorem Question_yes {v : Value} (S : ByteArray) (kd en : Int) {w : World} (hq : Calls Tryd.prog 23 #[v] w fun e w' => e = .returned (.tuple #[.agg #[.string S, .int .i64 kd, .int .i64 en], .nilIface]) ∧ Grew w w') :
    Calls Tryd.prog 8 #[v] w fun e w' => e = .returned (.tuple #[.string S, .int .i64 kd, .int .i64 0]) ∧ Grew w w' := by
  have HQ := Lib.hid hq
  clear hq
  go_enter Tryd.func8, Tryd.ntmps8
  go_wp2_with fail
  refine HQ.out.mono ?_
  rintro e w1 ⟨rfl, g1⟩
  go_upto_region 2 with fail
  have hQ : Blk (w1.alloc (.cells #[.string S, .int .i64 kd, .int .i64 en] 49)) w1.heap.size #[.string S, .int .i64 kd, .int .i64 en] 49 := Blk.new _ _ _ _ rfl
  have g2 : Grew w1 (w1.alloc (.cells #[.string S, .int .i64 kd, .int .i64 en] 49)) := (Grew.refl _).alloc _
  generalize (w1.alloc (.cells #[.string S, .int .i64 kd, .int .i64 en] 49)) = w2 at *
  generalize hlQ : w1.heap.size = Q at *
  have G2 := g1.trans g2
  have hst := (Grew.refl w2).drew1
  refine wp_region_held_drew (S := fun w' => Grew w2 w') (by kernel_rfl) (by exact hst) (fun hHeld => ?_)
  replace hHeld : Grew w2 w2.drew := hHeld
  generalize w2.drew = wq3 at *
  refine wpAnyH_take (i := 0) (v := ?_) rfl (by kernel_rfl) (by kernel_rfl) (by kernel_rfl) (fun _ _ _ h => h) (Or.inl ⟨by rfl, ?_⟩) hHeld ?_
  rotate_left
  · intro wq hSw
    replace hSw : Grew w2 wq := hSw
    go_simp
    try with_reducible rfl
  try simp only [List.getElem_toArray, List.getElem_cons_succ, List.getElem_cons_zero, Act.put, List.setIfInBounds_toArray, List.set_cons_zero, List.set_cons_succ]
  refine wpAnyH_take (i := 1) (v := ?_) rfl (by kernel_rfl) (by kernel_rfl) (by kernel_rfl) (fun _ _ _ h => h) (Or.inl ⟨by rfl, ?_⟩) hHeld ?_
  rotate_left
  · intro wq hSw
    replace hSw : Grew w2 wq := hSw
    have y0 := (hQ.grew hSw).cell 0
    go_simp
    try with_reducible rfl
  try simp only [List.getElem_toArray, List.getElem_cons_succ, List.getElem_cons_zero, Act.put, List.setIfInBounds_toArray, List.set_cons_zero, List.set_cons_succ]
  refine wpAnyH_take (i := 2) (v := ?_) rfl (by kernel_rfl) (by kernel_rfl) (by kernel_rfl) (fun _ _ _ h => h) (Or.inl ⟨by rfl, ?_⟩) hHeld ?_
  rotate_left
  · intro wq hSw
    replace hSw : Grew w2 wq := hSw
    go_simp
    try with_reducible rfl
  try simp only [List.getElem_toArray, List.getElem_cons_succ, List.getElem_cons_zero, Act.put, List.setIfInBounds_toArray, List.set_cons_zero, List.set_cons_succ]
  refine wpAnyH_take (i := 3) (v := ?_) rfl (by kernel_rfl) (by kernel_rfl) (by kernel_rfl) (fun _ _ _ h => h) (Or.inl ⟨by rfl, ?_⟩) hHeld ?_
  rotate_left
  · intro wq hSw
    replace hSw : Grew w2 wq := hSw
    have y1 := (hQ.grew hSw).cell 1
    go_simp
    try with_reducible rfl
  try simp only [List.getElem_toArray, List.getElem_cons_succ, List.getElem_cons_zero, Act.put, List.setIfInBounds_toArray, List.set_cons_zero, List.set_cons_succ]
  refine wpAnyH_take (i := 4) (v := ?_) rfl (by kernel_rfl) (by kernel_rfl) (by kernel_rfl) (fun _ _ _ h => h) (Or.inl ⟨by rfl, ?_⟩) hHeld ?_
  rotate_left
  · intro wq hSw
    replace hSw : Grew w2 wq := hSw
    go_simp
    try with_reducible rfl
  try simp only [List.getElem_toArray, List.getElem_cons_succ, List.getElem_cons_zero, Act.put, List.setIfInBounds_toArray, List.set_cons_zero, List.set_cons_succ]
  refine wpAnyH_ready (rs := [5]) (by kernel_rfl) (by simp) ?_
  refine AllReadyH.cons rfl (fun K hK => ?_) AllReadyH.nil
  go_simp
  refine (number_nil wq3).mono ?_
  rintro e wk4 ⟨rfl, gk4⟩
  refine hK.out _ _ (hHeld.trans gk4) (fun hHeld => ?_)
  clear hK K
  try simp only [List.getElem_toArray, List.getElem_cons_succ, List.getElem_cons_zero, Act.put, List.setIfInBounds_toArray, List.set_cons_zero, List.set_cons_succ]
  refine wpAnyH_take (i := 6) (v := ?_) rfl (by kernel_rfl) (by kernel_rfl) (by kernel_rfl) (fun _ _ _ h => h) (Or.inl ⟨by rfl, ?_⟩) hHeld ?_
  rotate_left
  · intro wq hSw
    replace hSw : Grew w2 wq := hSw
    go_simp
    try with_reducible rfl
  try simp only [List.getElem_toArray, List.getElem_cons_succ, List.getElem_cons_zero, Act.put, List.setIfInBounds_toArray, List.set_cons_zero, List.set_cons_succ]
  refine wpAnyH_take (i := 7) (v := ?_) rfl (by kernel_rfl) (by kernel_rfl) (by kernel_rfl) (fun _ _ _ h => h) (Or.inl ⟨by rfl, ?_⟩) hHeld ?_
  rotate_left
  · intro wq hSw
    replace hSw : Grew w2 wq := hSw
    go_simp
    try with_reducible rfl
  try simp only [List.getElem_toArray, List.getElem_cons_succ, List.getElem_cons_zero, Act.put, List.setIfInBounds_toArray, List.set_cons_zero, List.set_cons_succ]
  refine wpAnyH_take (i := 8) (v := ?_) rfl (by kernel_rfl) (by kernel_rfl) (by kernel_rfl) (fun _ _ _ h => h) (Or.inl ⟨by rfl, ?_⟩) hHeld ?_
  rotate_left
  · intro wq hSw
    replace hSw : Grew w2 wq := hSw
    go_simp
    try with_reducible rfl
  try simp only [List.getElem_toArray, List.getElem_cons_succ, List.getElem_cons_zero, Act.put, List.setIfInBounds_toArray, List.set_cons_zero, List.set_cons_succ]
  refine wpAnyH_done (by kernel_rfl) ?_ _
  try simp only [List.getElem_toArray, List.getElem_cons_succ, List.getElem_cons_zero, Act.put, List.setIfInBounds_toArray, List.set_cons_zero, List.set_cons_succ]
  go_wp2_with fail
  go_ret3
  exact ⟨rfl, G2.trans hHeld⟩
set_option maxHeartbeats 1000000 in
theorem Question_no {v : Value} (S : ByteArray) (kd en ER : Int) {w : World} (sn : SenW w) (hq : Calls Tryd.prog 23 #[v] w fun e w' => ∃ n1 s1, e = .returned (.tuple #[.agg #[.string S, .int .i64 kd, .int .i64 en], .iface 62 (.agg #[.int .i64 ER, .int .i64 n1, .string s1])]) ∧ Grew w w') :
    Calls Tryd.prog 8 #[v] w fun e w' => e = .returned (.tuple #[.string S, .int .i64 kd, .int .i64 ER]) ∧ Grew w w' := by
  have HQ := Lib.hid hq
  clear hq
  go_enter Tryd.func8, Tryd.ntmps8
  go_wp2_with fail
  refine HQ.out.mono ?_
  rintro e w1 ⟨n1, s1, rfl, g1⟩
  go_upto_region 2 with fail
  have hQ : Blk (w1.alloc (.cells #[.string S, .int .i64 kd, .int .i64 en] 49)) w1.heap.size #[.string S, .int .i64 kd, .int .i64 en] 49 := Blk.new _ _ _ _ rfl
  have g2 : Grew w1 (w1.alloc (.cells #[.string S, .int .i64 kd, .int .i64 en] 49)) := (Grew.refl _).alloc _
  generalize (w1.alloc (.cells #[.string S, .int .i64 kd, .int .i64 en] 49)) = w2 at *
  generalize hlQ : w1.heap.size = Q at *
  have G2 := g1.trans g2
  have hst := (Grew.refl w2).drew1
  refine wp_region_held_drew (S := fun w' => Grew w2 w') (by kernel_rfl) (by exact hst) (fun hHeld => ?_)
  replace hHeld : Grew w2 w2.drew := hHeld
  generalize w2.drew = wq5 at *
  refine wpAnyH_take (i := 0) (v := ?_) rfl (by kernel_rfl) (by kernel_rfl) (by kernel_rfl) (fun _ _ _ h => h) (Or.inl ⟨by rfl, ?_⟩) hHeld ?_
  rotate_left
  · intro wq hSw
    replace hSw : Grew w2 wq := hSw
    go_simp
    try with_reducible rfl
  try simp only [List.getElem_toArray, List.getElem_cons_succ, List.getElem_cons_zero, Act.put, List.setIfInBounds_toArray, List.set_cons_zero, List.set_cons_succ]
  refine wpAnyH_take (i := 1) (v := ?_) rfl (by kernel_rfl) (by kernel_rfl) (by kernel_rfl) (fun _ _ _ h => h) (Or.inl ⟨by rfl, ?_⟩) hHeld ?_
  rotate_left
  · intro wq hSw
    replace hSw : Grew w2 wq := hSw
    have y0 := (hQ.grew hSw).cell 0
    go_simp
    try with_reducible rfl
  try simp only [List.getElem_toArray, List.getElem_cons_succ, List.getElem_cons_zero, Act.put, List.setIfInBounds_toArray, List.set_cons_zero, List.set_cons_succ]
  refine wpAnyH_take (i := 2) (v := ?_) rfl (by kernel_rfl) (by kernel_rfl) (by kernel_rfl) (fun _ _ _ h => h) (Or.inl ⟨by rfl, ?_⟩) hHeld ?_
  rotate_left
  · intro wq hSw
    replace hSw : Grew w2 wq := hSw
    go_simp
    try with_reducible rfl
  try simp only [List.getElem_toArray, List.getElem_cons_succ, List.getElem_cons_zero, Act.put, List.setIfInBounds_toArray, List.set_cons_zero, List.set_cons_succ]
  refine wpAnyH_take (i := 3) (v := ?_) rfl (by kernel_rfl) (by kernel_rfl) (by kernel_rfl) (fun _ _ _ h => h) (Or.inl ⟨by rfl, ?_⟩) hHeld ?_
  rotate_left
  · intro wq hSw
    replace hSw : Grew w2 wq := hSw
    have y1 := (hQ.grew hSw).cell 1
    go_simp
    try with_reducible rfl
  try simp only [List.getElem_toArray, List.getElem_cons_succ, List.getElem_cons_zero, Act.put, List.setIfInBounds_toArray, List.set_cons_zero, List.set_cons_succ]
  refine wpAnyH_take (i := 4) (v := ?_) rfl (by kernel_rfl) (by kernel_rfl) (by kernel_rfl) (fun _ _ _ h => h) (Or.inl ⟨by rfl, ?_⟩) hHeld ?_
  rotate_left
  · intro wq hSw
    replace hSw : Grew w2 wq := hSw
    go_simp
    try with_reducible rfl
  try simp only [List.getElem_toArray, List.getElem_cons_succ, List.getElem_cons_zero, Act.put, List.setIfInBounds_toArray, List.set_cons_zero, List.set_cons_succ]
  refine wpAnyH_ready (rs := [5]) (by kernel_rfl) (by simp) ?_
  refine AllReadyH.cons rfl (fun K hK => ?_) AllReadyH.nil
  go_simp
  refine (number_hit _ _ _ (sn.grew (G2.trans hHeld))).mono ?_
  rintro e wk6 ⟨rfl, gk6⟩
  refine hK.out _ _ (hHeld.trans gk6) (fun hHeld => ?_)
  clear hK K
  try simp only [List.getElem_toArray, List.getElem_cons_succ, List.getElem_cons_zero, Act.put, List.setIfInBounds_toArray, List.set_cons_zero, List.set_cons_succ]
  refine wpAnyH_take (i := 6) (v := ?_) rfl (by kernel_rfl) (by kernel_rfl) (by kernel_rfl) (fun _ _ _ h => h) (Or.inl ⟨by rfl, ?_⟩) hHeld ?_
  rotate_left
  · intro wq hSw
    replace hSw : Grew w2 wq := hSw
    go_simp
    try with_reducible rfl
  try simp only [List.getElem_toArray, List.getElem_cons_succ, List.getElem_cons_zero, Act.put, List.setIfInBounds_toArray, List.set_cons_zero, List.set_cons_succ]
  refine wpAnyH_take (i := 7) (v := ?_) rfl (by kernel_rfl) (by kernel_rfl) (by kernel_rfl) (fun _ _ _ h => h) (Or.inl ⟨by rfl, ?_⟩) hHeld ?_
  rotate_left
  · intro wq hSw
    replace hSw : Grew w2 wq := hSw
    go_simp
    try with_reducible rfl
  try simp only [List.getElem_toArray, List.getElem_cons_succ, List.getElem_cons_zero, Act.put, List.setIfInBounds_toArray, List.set_cons_zero, List.set_cons_succ]
  refine wpAnyH_take (i := 8) (v := ?_) rfl (by kernel_rfl) (by kernel_rfl) (by kernel_rfl) (fun _ _ _ h => h) (Or.inl ⟨by rfl, ?_⟩) hHeld ?_
  rotate_left
  · intro wq hSw
    replace hSw : Grew w2 wq := hSw
    go_simp
    try with_reducible rfl
  try simp only [List.getElem_toArray, List.getElem_cons_succ, List.getElem_cons_zero, Act.put, List.setIfInBounds_toArray, List.set_cons_zero, List.set_cons_succ]
  refine wpAnyH_done (by kernel_rfl) ?_ _
  try simp only [List.getElem_toArray, List.getElem_cons_succ, List.getElem_cons_zero, Act.put, List.setIfInBounds_toArray, List.set_cons_zero, List.set_cons_succ]
  go_wp2_with fail
  go_ret3
  exact ⟨rfl, G2.trans hHeld⟩
theorem Question21_c {v : Value} {xs : List Int} (hl : xs.length ≤ 140737488355328) {w : World} (sn : SenW w) (hb : Buf w v xs) :
    Calls Tryd.prog 8 #[v] w fun e w' => e = .returned (.tuple #[.string (strOfNums (qsV xs).1), .int .i64 (qsV xs).2.1, .int .i64 (qsV xs).2.2.2]) ∧ Grew w w' := by
  have hq := questionIn_c hl hb
  by_cases h0 : (qsV xs).2.2.2 = 0
  · rw [h0]
    refine Question_yes _ _ (qsV xs).2.2.1 (hq.mono ?_)
    rintro e w1 ⟨u, he, (⟨_, rfl⟩ | ⟨h1, _⟩), g⟩
    · exact ⟨he, g⟩
    · exact absurd h0 h1
  · refine Question_no _ _ (qsV xs).2.2.1 _ sn (hq.mono ?_)
    rintro e w1 ⟨u, he, (⟨h1, _⟩ | ⟨_, n, s, rfl⟩), g⟩
    · exact absurd h1 h0
    · exact ⟨n, s, he, g⟩
end Go.Proofs.YtnafdgpkofffaaaDoor
