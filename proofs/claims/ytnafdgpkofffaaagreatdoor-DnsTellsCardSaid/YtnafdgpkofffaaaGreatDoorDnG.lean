/-
  The document's own questions for names: question, Question, Id, Query, With.
-/
import Derived.Test.YtnafdgpkofffaaaGreatDoorDnM
import Derived.Test.YtnafdgpkofffaaaGreatDoorRowSet
set_option maxRecDepth 4000
set_option linter.unusedVariables false
set_option linter.unusedSimpArgs false
namespace Go.Proofs.YtnafdgpkofffaaaGreatDoor
open Go.RowKit

theorem results_four {fn : Func} {t u v x : Tmp} (h : fn.results = #[.tmp t, .tmp u, .tmp v, .tmp x]) (tmps : Array Value) (P : Program) (w : World) :
    (results fn tmps).run P w = .ok (.tuple #[tmps.getD t undef, tmps.getD u undef, tmps.getD v undef, tmps.getD x undef]) w := by
  simp [results, h, go_sem]
def idV (b : List Int) : Int × Bool := if b.length < 12 then (0, false) else (getV (cutL b 0 2) true, true)
def withV (b : List Int) (id : Int) : List Int := if b.length < 12 then b else (b.set 0 (id / 256 % 256)).set 1 (id % 256)
def qyV (b : List Int) : Bool := decide (12 ≤ b.length) && decide (b.getD 2 0 < 128)
theorem namF_at (b : List Int) (p : Nat) : ∀ f k T, (namF b p f k T).2.2 = 0 → b.length < k + f → 0 ≤ (namF b p f k T).2.1 ∧ (k : Int) < (namF b p f k T).2.1 ∧ (namF b p f k T).2.1 ≤ b.length
  | 0, k, T, h, _ => by simp [namF] at h
  | f + 1, k, T, h, hl => by
    unfold namF at h ⊢
    split at h
    · simp at h
    · rename_i h1
      rw [if_neg h1]
      split at h
      · rename_i h2
        rw [if_pos h2]
        simp only
        omega
      · rename_i h2
        rw [if_neg h2]
        split at h
        · simp at h
        · rename_i h3
          rw [if_neg h3]
          split at h
          · rename_i h4; exact absurd h h4
          · rename_i h4
            rw [if_neg h4]
            split at h
            · simp at h
            · rename_i h5
              rw [if_neg h5]
              have := namF_at b p f _ _ h (by omega)
              omega
theorem namV_at {b : List Int} {p : Nat} (h : (namV b p).2.2 = 0) : 0 ≤ (namV b p).2.1 ∧ (p : Int) < (namV b p).2.1 ∧ (namV b p).2.1 ≤ b.length := namF_at b p _ p [] h (by omega)
theorem qs_short {a : Option Addr} {n c : Nat} {xs : List Int} (h : (n : Int) < 12) {w : World} (hb : Buf w (.slice a n c) xs) :
    Calls Tryz.prog 20 #[.slice a n c] w fun e w' => e = .returned (.tuple #[.string ⟨#[]⟩, .int .i64 0, .int .i64 0, .int .i64 160]) ∧ Grew w w' := by
  clear hb
  go_enter Tryz.func20, Tryz.ntmps20
  go_wp2_with fail
  refine bodyPost_ret (results_four rfl _ _ _) rfl ?_
  exact ⟨rfl, Grew.refl _⟩
theorem qs_form {a : Option Addr} {n c : Nat} {xs : List Int} (h : ¬ (n : Int) < 12) (h1 : (getV (cutL xs 4 6) true != 1) = true) {w : World} (hb : Buf w (.slice a n c) xs) :
    Calls Tryz.prog 20 #[.slice a n c] w fun e w' => e = .returned (.tuple #[.string ⟨#[]⟩, .int .i64 0, .int .i64 0, .int .i64 161]) ∧ Grew w w' := by
  have hn := hb.lenEq.1
  obtain ⟨a4, c4, H4, z1, hrun, z3, z4⟩ := hb.run_cut (lo := 4) (hi := 6) (by omega) (by omega)
  have r4 : ∀ w', (Instr.sliceAt 22 (.slice a n c) (some (.int .i64 4)) (some (.int .i64 6)) none).run Tryz.prog w' = .ok (.slice a4 2 c4) w' := hrun .i64 .i64
  have HN4 := Lib.hid (refNum21_c (by rw [cutL_length (by omega) (by omega)]) H4)
  clear z1 z3 z4 hrun H4
  clear hb hn
  generalize getV (cutL xs 4 6) true = y at *
  go_enter Tryz.func20, Tryz.ntmps20
  go_wp2_with fail
  refine HN4.out.mono ?_
  rintro e wx ⟨rfl, hx⟩
  obtain rfl := hx.symm
  go_wp2_with fail
  refine bodyPost_ret (results_four rfl _ _ _) rfl ?_
  exact ⟨rfl, Grew.refl _⟩
theorem qs_name {a : Option Addr} {n c : Nat} {xs : List Int} (h : ¬ (n : Int) < 12) (hl : xs.length ≤ 140737488355328) (h1 : (getV (cutL xs 4 6) true != 1) = false) (h2 : ((namV xs 12).2.2 != 0) = true) {w : World} (hb : Buf w (.slice a n c) xs) :
    Calls Tryz.prog 20 #[.slice a n c] w fun e w' => e = .returned (.tuple #[.string ⟨#[]⟩, .int .i64 0, .int .i64 0, .int .i64 (namV xs 12).2.2]) ∧ Grew w w' := by
  have hn := hb.lenEq.1
  obtain ⟨a4, c4, H4, z1, hrun, z3, z4⟩ := hb.run_cut (lo := 4) (hi := 6) (by omega) (by omega)
  have r4 : ∀ w', (Instr.sliceAt 22 (.slice a n c) (some (.int .i64 4)) (some (.int .i64 6)) none).run Tryz.prog w' = .ok (.slice a4 2 c4) w' := hrun .i64 .i64
  have HN4 := Lib.hid (refNum21_c (by rw [cutL_length (by omega) (by omega)]) H4)
  clear z1 z3 z4 hrun H4
  have HNM := Lib.hid (names_c 12 12 (by rfl) (by omega) hl hb)
  clear hb hn hl
  generalize getV (cutL xs 4 6) true = y at *
  generalize (namV xs 12).2.2 = E at *
  generalize (namV xs 12).2.1 = At at *
  generalize (namV xs 12).1 = Tx at *
  go_enter Tryz.func20, Tryz.ntmps20
  go_wp2_with fail
  refine HN4.out.mono ?_
  rintro e wx ⟨rfl, hx⟩
  obtain rfl := hx.symm
  go_wp2_with fail
  refine HNM.out.mono ?_
  rintro e w1 ⟨rfl, g1⟩
  go_wp2_with fail
  refine bodyPost_ret (results_four rfl _ _ _) rfl ?_
  exact ⟨rfl, g1⟩
theorem qs_end {a : Option Addr} {n c : Nat} {xs : List Int} (h : ¬ (n : Int) < 12) (hl : xs.length ≤ 140737488355328) (h1 : (getV (cutL xs 4 6) true != 1) = false) (h2 : (namV xs 12).2.2 = 0) (h3 : (n : Int) < (namV xs 12).2.1 + 4) {w : World} (hb : Buf w (.slice a n c) xs) :
    Calls Tryz.prog 20 #[.slice a n c] w fun e w' => e = .returned (.tuple #[.string ⟨#[]⟩, .int .i64 0, .int .i64 0, .int .i64 160]) ∧ Grew w w' := by
  have hna := namV_at h2
  have hn := hb.lenEq.1
  obtain ⟨a4, c4, H4, z1, hrun, z3, z4⟩ := hb.run_cut (lo := 4) (hi := 6) (by omega) (by omega)
  have r4 : ∀ w', (Instr.sliceAt 22 (.slice a n c) (some (.int .i64 4)) (some (.int .i64 6)) none).run Tryz.prog w' = .ok (.slice a4 2 c4) w' := hrun .i64 .i64
  have HN4 := Lib.hid (refNum21_c (by rw [cutL_length (by omega) (by omega)]) H4)
  clear z1 z3 z4 hrun H4
  have HNM := Lib.hid (names_c 12 12 (by rfl) (by omega) hl hb)
  clear hb
  generalize getV (cutL xs 4 6) true = y at *
  rw [h2] at HNM
  clear h2
  have ew : wrap64 ((namV xs 12).2.1 + 4) = (namV xs 12).2.1 + 4 := IntWalk.wrap64_in _ (by omega)
  clear hna hn hl
  generalize (namV xs 12).2.1 = At at *
  generalize (namV xs 12).1 = Tx at *
  go_enter Tryz.func20, Tryz.ntmps20
  go_wp2_with fail
  refine HN4.out.mono ?_
  rintro e wx ⟨rfl, hx⟩
  obtain rfl := hx.symm
  go_wp2_with fail
  refine HNM.out.mono ?_
  rintro e w1 ⟨rfl, g1⟩
  go_wp2_with fail
  refine bodyPost_ret (results_four rfl _ _ _) rfl ?_
  exact ⟨rfl, g1⟩
theorem qs_ok {a : Option Addr} {n c : Nat} {xs : List Int} (h : ¬ (n : Int) < 12) (hl : xs.length ≤ 140737488355328) (h1 : (getV (cutL xs 4 6) true != 1) = false) (h2 : (namV xs 12).2.2 = 0) (h3 : ¬ (n : Int) < (namV xs 12).2.1 + 4) {w : World} (hb : Buf w (.slice a n c) xs) :
    Calls Tryz.prog 20 #[.slice a n c] w fun e w' => e = .returned (.tuple #[.string (strOfNums (namV xs 12).1), .int .i64 (getV (cutL xs (namV xs 12).2.1.toNat ((namV xs 12).2.1.toNat + 2)) true), .int .i64 ((namV xs 12).2.1 + 4), .int .i64 0]) ∧ Grew w w' := by
  have hna := namV_at h2
  have hn := hb.lenEq.1
  obtain ⟨a4, c4, H4, z1, hrun, z3, z4⟩ := hb.run_cut (lo := 4) (hi := 6) (by omega) (by omega)
  have r4 : ∀ w', (Instr.sliceAt 22 (.slice a n c) (some (.int .i64 4)) (some (.int .i64 6)) none).run Tryz.prog w' = .ok (.slice a4 2 c4) w' := hrun .i64 .i64
  have HN4 := Lib.hid (refNum21_c (by rw [cutL_length (by omega) (by omega)]) H4)
  clear z1 z3 z4 hrun H4
  have HNM := Lib.hid (names_c 12 12 (by rfl) (by omega) hl hb)
  rw [h2] at HNM
  clear h2
  obtain ⟨k, hk⟩ : ∃ k : Nat, (namV xs 12).2.1 = (k : Int) := ⟨(namV xs 12).2.1.toNat, by omega⟩
  rw [hk] at HNM h3 hna ⊢
  rw [Int.toNat_natCast]
  obtain ⟨a5, c5, H5, z1, hrun, z3, z4⟩ := hb.run_cut (lo := k) (hi := k + 2) (by omega) (by omega)
  have r5 : ∀ w', (Instr.sliceAt 22 (.slice a n c) (some (.int .i64 k)) (some (.int .i64 ((k : Int) + 2))) none).run Tryz.prog w' = .ok (.slice a5 2 c5) w' := fun w' => by
    have := hrun .i64 .i64 w'
    rwa [show k + 2 - k = 2 by omega, show ((k + 2 : Nat) : Int) = (k : Int) + 2 by omega] at this
  rw [show k + 2 - k = 2 by omega] at H5
  have HN5 := Lib.hid (fun w' (g : Grew w w') => refNum21_c (by rw [cutL_length (by omega) (by omega)]; omega) (H5.grew g))
  have ew : wrap64 ((k : Int) + 4) = (k : Int) + 4 := IntWalk.wrap64_in _ (by omega)
  have EWH := Lib.hid ew
  have ew2 : wrap64 ((k : Int) + 2) = (k : Int) + 2 := IntWalk.wrap64_in _ (by omega)
  clear hb hna z1 z3 z4 hrun H5 hk
  generalize getV (cutL xs 4 6) true = y at *
  generalize getV (cutL xs k (k + 2)) true = q at *
  generalize (namV xs 12).1 = Tx at *
  clear hn hl
  go_enter Tryz.func20, Tryz.ntmps20
  go_wp2_with fail
  refine HN4.out.mono ?_
  rintro e wx ⟨rfl, hx⟩
  obtain rfl := hx.symm
  go_wp2_with fail
  refine HNM.out.mono ?_
  rintro e w1 ⟨rfl, g1⟩
  go_wp2_with fail
  refine (HN5.out _ g1).mono ?_
  rintro e wx ⟨rfl, hx⟩
  obtain rfl := hx.symm
  go_wp2_with fail
  refine bodyPost_ret (results_four rfl _ _ _) rfl ?_
  refine ⟨?_, g1⟩
  show Ending.returned (.tuple #[.string (strOfNums Tx), .int .i64 q, .int .i64 (wrap64 ((k : Int) + 4)), .int .i64 0]) = _
  rw [EWH.out]
theorem qs_c {v : Value} {xs : List Int} (hl : xs.length ≤ 140737488355328) {w : World} (hb : Buf w v xs) :
    Calls Tryz.prog 20 #[v] w fun e w' => e = .returned (.tuple #[.string (strOfNums (qsV xs).1), .int .i64 (qsV xs).2.1, .int .i64 (qsV xs).2.2.1, .int .i64 (qsV xs).2.2.2]) ∧ Grew w w' := by
  have hq := hb
  obtain ⟨a, c, rfl, _, _⟩ := hb.shape
  have nil : ∀ {E : Int}, qsV xs = ([], 0, 0, E) → (Calls Tryz.prog 20 #[.slice a xs.length c] w fun e w' => e = .returned (.tuple #[.string ⟨#[]⟩, .int .i64 0, .int .i64 0, .int .i64 E]) ∧ Grew w w') → Calls Tryz.prog 20 #[.slice a xs.length c] w fun e w' => e = .returned (.tuple #[.string (strOfNums (qsV xs).1), .int .i64 (qsV xs).2.1, .int .i64 (qsV xs).2.2.1, .int .i64 (qsV xs).2.2.2]) ∧ Grew w w' := fun hE h => by rw [hE]; exact h
  by_cases k0 : xs.length < 12
  · exact nil (by unfold qsV; rw [if_pos k0]) (qs_short (by omega) hq)
  · by_cases k1 : getV (cutL xs 4 6) true = 1
    · by_cases k2 : (namV xs 12).2.2 = 0
      · by_cases k3 : (xs.length : Int) < (namV xs 12).2.1 + 4
        · exact nil (by unfold qsV; rw [if_neg k0, if_neg (fun h => h k1), if_neg (fun h => h k2), if_pos k3]) (qs_end (by omega) hl (by simpa using k1) k2 k3 hq)
        · rw [show qsV xs = ((namV xs 12).1, getV (cutL xs (namV xs 12).2.1.toNat ((namV xs 12).2.1.toNat + 2)) true, (namV xs 12).2.1 + 4, 0) by unfold qsV; rw [if_neg k0, if_neg (fun h => h k1), if_neg (fun h => h k2), if_neg k3]]
          exact qs_ok (by omega) hl (by simpa using k1) k2 k3 hq
      · exact nil (by unfold qsV; rw [if_neg k0, if_neg (fun h => h k1), if_pos k2]) (qs_name (by omega) hl (by simpa using k1) (by simpa using k2) hq)
    · exact nil (by unfold qsV; rw [if_neg k0, if_pos k1]) (qs_form (by omega) (by simpa using k1) hq)
theorem refQuestion_c {v : Value} {xs : List Int} (hl : xs.length ≤ 140737488355328) {w : World} (hb : Buf w v xs) :
    Calls Tryz.prog 6 #[v] w fun e w' => e = .returned (.tuple #[.string (strOfNums (qsV xs).1), .int .i64 (qsV xs).2.1, .int .i64 (qsV xs).2.2.2]) ∧ Grew w w' := by
  have HQ := Lib.hid (qs_c hl hb)
  go_enter Tryz.func6, Tryz.ntmps6
  go_wp2_with fail
  refine HQ.out.mono ?_
  rintro e w1 ⟨rfl, g1⟩
  go_wp2_with fail
  go_ret3
  exact ⟨rfl, g1⟩
theorem refId_c {v : Value} {xs : List Int} {w : World} (hb : Buf w v xs) :
    Calls Tryz.prog 10 #[v] w fun e w' => e = .returned (.tuple #[.int .i64 (idV xs).1, .bool (idV xs).2]) ∧ Grew w w' := by
  have hq := hb
  obtain ⟨a, c, rfl, _, _⟩ := hb.shape
  unfold idV
  by_cases k0 : xs.length < 12
  · rw [if_pos k0]
    have k1 : (xs.length : Int) < 12 := by omega
    go_enter Tryz.func10, Tryz.ntmps10
    go_wp2_with fail
    go_ret2
    exact ⟨rfl, Grew.refl _⟩
  · rw [if_neg k0]
    have k1 : ¬ (xs.length : Int) < 12 := by omega
    obtain ⟨a4, c4, H4, z1, z2, hrun, z4⟩ := hq.run_cut (lo := 0) (hi := 2) (by omega) (by omega)
    have r4 : ∀ w', (Instr.sliceAt 22 (.slice a xs.length c) none (some (.int .i64 2)) none).run Tryz.prog w' = .ok (.slice a4 2 c4) w' := hrun rfl .i64
    have HN4 := Lib.hid (refNum21_c (by rw [cutL_length (by omega) (by omega)]) H4)
    clear z1 z2 z4 hrun H4
    generalize getV (cutL xs 0 2) true = y at *
    go_enter Tryz.func10, Tryz.ntmps10
    go_wp2_with fail
    refine HN4.out.mono ?_
    rintro e wx ⟨rfl, hx⟩
    obtain rfl := hx.symm
    go_wp2_with fail
    go_ret2
    exact ⟨rfl, Grew.refl _⟩
theorem refQuery_c {v : Value} {xs : List Int} {w : World} (hb : Buf w v xs) :
    Calls Tryz.prog 17 #[v] w fun e w' => e = .returned (.bool (qyV xs)) ∧ w' = w := by
  have hq := hb
  obtain ⟨a, c, rfl, _, ha⟩ := hb.shape
  unfold qyV
  by_cases k0 : 12 ≤ xs.length
  · rw [decide_eq_true k0, Bool.true_and]
    have k1 : (12 : Int) ≤ (xs.length : Int) := by omega
    have k2 : (2 : Int) < (xs.length : Int) := by omega
    obtain ⟨bk, off, rfl, hat⟩ := ha (by rintro rfl; simp at k0)
    have x0 := hat 2 (by omega)
    clear ha hat hq hb k0
    generalize xs.getD 2 0 = y at *
    generalize xs.length = n at *
    go_enter Tryz.func17, Tryz.ntmps17
    go_wp2_with fail
    go_ret
    exact ⟨rfl, rfl⟩
  · rw [decide_eq_false k0, Bool.false_and]
    have k1 : ¬ (12 : Int) ≤ (xs.length : Int) := by omega
    go_enter Tryz.func17, Tryz.ntmps17
    go_wp2_with fail
    go_ret
    exact ⟨rfl, rfl⟩
theorem refWith_c {v : Value} {xs : List Int} (id : Int) (hi : intI id) (hl : xs.length ≤ 140737488355328) {w : World} (hb : Buf w v xs) :
    Calls Tryz.prog 15 #[v, .int .i64 id] w fun e w' => ∃ u, e = .returned u ∧ Buf w' u (withV xs id) ∧ Grew w w' := by
  have HB := Lib.hid hb
  have HL := Lib.hid (show ([] : List Int).length + xs.length ≤ 140737488355328 by simpa using hl)
  have HO := Lib.hid hb.ok
  obtain ⟨a, c, rfl, _, _⟩ := hb.shape
  unfold withV
  by_cases k0 : xs.length < 12
  · rw [if_pos k0]
    have k1 : ¬ (12 : Int) ≤ (xs.length : Int) := by omega
    clear hb hl
    go_enter Tryz.func15, Tryz.ntmps15
    go_wp2_with (refine wpList_append_b (W := w) rfl (.tmp 6) (.tmp 7) rfl ((Grew.refl w).alloc _) (Row.lit w w.heap.size (Nat.le_refl _) #[] [] rfl (by unfold maxLen; simp) w.heap.size rfl 0 rfl) (HB.out.grew ((Grew.refl w).alloc _)) (by rfl) (by rfl) HL.out ?_; intro v9 w9 R9 g9 y9; clear y9)
    go_ret
    have hq := R9.out
    rw [List.nil_append] at hq
    exact ⟨_, rfl, hq.buf HO.out, g9⟩
  · rw [if_neg k0]
    have k1 : (12 : Int) ≤ (xs.length : Int) := by omega
    have k2 : (0 : Int) < (xs.length : Int) := by omega
    have k3 : (1 : Int) < (xs.length : Int) := by omega
    clear hb
    go_enter Tryz.func15, Tryz.ntmps15
    go_upto_region 2 with (refine wpList_append_b (W := w) rfl (.tmp 6) (.tmp 7) rfl ((Grew.refl w).alloc _) (Row.lit w w.heap.size (Nat.le_refl _) #[] [] rfl (by unfold maxLen; simp) w.heap.size rfl 0 rfl) (HB.out.grew ((Grew.refl w).alloc _)) (by rfl) (by rfl) HL.out ?_; intro v9 w9 R9 g9 y9; clear y9)
    have hr := R9.out
    rw [List.nil_append] at hr
    clear R9
    obtain ⟨g, c9, rfl⟩ : ∃ g c, v9 = .slice (some ⟨g, 0, none⟩) xs.length c := by
      rcases hr.2 with ⟨_, h2⟩ | ⟨g, cap, cur, h1, _, h3, _⟩
      · omega
      · exact ⟨g, cap, h1⟩
    have y0 := hr.cellAt 0 (by omega)
    have y1 := hr.cellAt 1 (by omega)
    have f0 := hr.freeAt 0
    have f1 := hr.freeAt 1
    have hge : w.heap.size ≤ g := hr.size.2.1
    have ew1 : IntKind.u8.wrap (id / 256) = id / 256 % 256 := by rw [wrap_u8]
    have ew2 : IntKind.u8.wrap id = id % 256 := by rw [wrap_u8]
    go_upto_region 4 with fail
    have hr4 := (hr.setCell 0 (id / 256 % 256)).setCell 1 (id % 256)
    have g4 := (g9.setCell (b := g) (o := 0) hge (.int .u8 (id / 256 % 256))).setCell (b := g) (o := 1) hge (.int .u8 (id % 256))
    have HR4 := Lib.hid (hr4.buf (fun x hx => by
      rcases List.mem_or_eq_of_mem_set hx with hx | rfl
      · rcases List.mem_or_eq_of_mem_set hx with hx | rfl
        · exact HO.out x hx
        · omega
      · omega))
    clear hr4 y0 y1 f0 f1 hr
    go_wp2_with fail
    go_ret
    exact ⟨_, rfl, HR4.out, g4⟩
end Go.Proofs.YtnafdgpkofffaaaGreatDoor
