/-
  The document's own Get of a datagram.
-/
import Derived.Test.YtcaafinjphionaaDoorUdR
import Derived.Test.YtcaafinjphionaaDoorKept
set_option maxRecDepth 4000
set_option linter.unusedVariables false
set_option linter.unusedSimpArgs false
namespace Go.Proofs.YtcaafinjphionaaDoor
open Go.RowKit

theorem refGetB_c {v : Value} {xs : List Int} (h8 : xs.length ≤ 8) {w : World} (hb : Buf w v xs) :
    Calls Tryd.prog 24 #[v, .bool true] w fun e w' => e = .returned (.int .u64 (getV xs true)) ∧ Grew w w' :=
  (refGet_c true hb.ok (by omega) w hb.bytes).mono fun _ _ ⟨h1, h2⟩ => ⟨h1, by subst h2; exact Grew.refl _⟩
theorem refGetU_short (a : Option Addr) (n c : Nat) (src dst : Int) (hs : (n : Int) < 8) (w : World) :
    Calls Tryd.prog 10 #[.slice a n c, .int .u32 src, .int .u32 dst] w fun e w' => ∃ u, e = .returned (.tuple #[u, .int .i64 160]) ∧ Ud w' u zU ∧ Grew w w' := by
  go_enter Tryd.func10, Tryd.ntmps10
  go_upto_region 1 with fail
  have hR : Blk (w.alloc (.cells #[.int .i64 0, .int .i64 0, .slice none 0 0] 24)) w.heap.size #[.int .i64 0, .int .i64 0, .slice none 0 0] 24 := Blk.new _ _ _ _ rfl
  have G : Grew w (w.alloc (.cells #[.int .i64 0, .int .i64 0, .slice none 0 0] 24)) := (Grew.refl _).alloc _
  generalize (w.alloc (.cells #[.int .i64 0, .int .i64 0, .slice none 0 0] 24)) = w0 at *
  generalize hlR : w.heap.size = R at *
  have y0 := hR.cell 0
  have y1 := hR.cell 1
  have y2 := hR.cell 2
  have f0 := hR.free 0
  have f1 := hR.free 1
  have f2 := hR.free 2
  go_wp2_with fail
  have E := (((hR.set (o := 0) (.int .i64 0)).set (o := 1) (.int .i64 0)).set (o := 2) (.slice none 0 0))
  have GE := (((G.setCell (b := R) (o := 0) (by omega) (.int .i64 0)).setCell (b := R) (o := 1) (by omega) (.int .i64 0)).setCell (b := R) (o := 2) (by omega) (.slice none 0 0))
  have z0 := E.cell 0
  have z1 := E.cell 1
  have z2 := E.cell 2
  exact bodyPost_ret (v := .tuple #[.agg #[.int .i64 0, .int .i64 0, .slice none 0 0], .int .i64 160]) (by simp [results, Tryd.results10, go_sem, z0, z1, z2]) rfl ⟨_, rfl, Ud.zero _, GE⟩
set_option maxHeartbeats 1000000 in
theorem refGetU_1 (a : Option Addr) (n c : Nat) (xs : List Int) (src dst : Int) (hsr : 0 ≤ src ∧ src < 4294967296) (hdr : 0 ≤ dst ∧ dst < 4294967296) (hs : ¬ ((n : Int) < 8)) {w : World} (hb : Buf w (.slice a n c) xs) (h1 : nU xs < 8) :
    Calls Tryd.prog 10 #[.slice a n c, .int .u32 src, .int .u32 dst] w fun e w' => ∃ u, e = .returned (.tuple #[u, .int .i64 161]) ∧ Ud w' u zU ∧ Grew w w' := by
  have hn := hb.lenEq.1
  have hne : xs ≠ [] := by rintro rfl; simp at hn; omega
  obtain ⟨_, _, ea, _, hat⟩ := hb.shape
  simp only [Value.slice.injEq] at ea
  obtain ⟨rfl, hn', rfl⟩ := ea
  clear hn'
  obtain ⟨bk, off, rfl, hat2⟩ := hat hne
  have HBL := Lib.hid (hat2.lt hne)
  have HC6 : Hid (w.cell? ⟨bk, off + 6, none⟩ = some (.int .u8 (xs.getD 6 0))) := Lib.hid (hat2 6 (by omega))
  have HC7 : Hid (w.cell? ⟨bk, off + 7, none⟩ = some (.int .u8 (xs.getD 7 0))) := Lib.hid (hat2 7 (by omega))
  have hm0 := getG_lt (hb.ok.cut 4 6) true (n := 2) (cutL_length (by omega) (by omega)) (by omega)
  rw [show (2 : Int) ^ (8 * 2) = 65536 by decide] at hm0
  have hM : getV (cutL xs 4 6) true = ((nU xs : Nat) : Int) := by unfold nU; omega
  have HMB := Lib.hid (show nU xs ≤ 65535 by unfold nU; omega)
  obtain ⟨a4, c4, H4, x1, r4, x3, x4⟩ := hb.run_cut (lo := 4) (hi := 6) (by omega) (by omega)
  have r4 : ∀ w', (Instr.sliceAt 22 (.slice (some ⟨bk, off, none⟩) n c) (some (.int .i64 4)) (some (.int .i64 6)) none).run Tryd.prog w' = .ok (.slice a4 2 c4) w' := r4 .i64 .i64
  have HG4 := Lib.hid (fun w' (g : Grew w w') => refGetB_c (by rw [cutL_length (by omega) (by omega)]; omega) (H4.grew g))
  rw [hM] at HG4
  have ew4 : IntKind.i64.wrap ((nU xs : Nat) : Int) = ((nU xs : Nat) : Int) := IntWalk.i64_in _ (by have := HMB.out; omega)
  clear x1 x3 x4 hat hat2 hne hm0 hM H4
  have k1 : (((nU xs : Nat) : Int) < 8) := by omega
  clear hb hn h1 
  generalize nU xs = N at *
  go_enter Tryd.func10, Tryd.ntmps10
  go_upto_region 1 with fail
  have hR : Blk (w.alloc (.cells #[.int .i64 0, .int .i64 0, .slice none 0 0] 24)) w.heap.size #[.int .i64 0, .int .i64 0, .slice none 0 0] 24 := Blk.new _ _ _ _ rfl
  have G : Grew w (w.alloc (.cells #[.int .i64 0, .int .i64 0, .slice none 0 0] 24)) := (Grew.refl _).alloc _
  generalize (w.alloc (.cells #[.int .i64 0, .int .i64 0, .slice none 0 0] 24)) = w0 at *
  generalize hlR : w.heap.size = R at *
  go_wp2_with fail
  refine (HG4.out _ G).mono ?_
  rintro e w1 ⟨rfl, g1⟩
  have G1 := G.trans g1
  have hR1 := hR.grew g1
  have y0 := hR1.cell 0
  have y1 := hR1.cell 1
  have y2 := hR1.cell 2
  have f0 := hR1.free 0
  have f1 := hR1.free 1
  have f2 := hR1.free 2
  go_wp2_with fail
  have E := (((hR1.set (o := 0) (.int .i64 0)).set (o := 1) (.int .i64 0)).set (o := 2) (.slice none 0 0))
  have GE := (((G1.setCell (b := R) (o := 0) (by omega) (.int .i64 0)).setCell (b := R) (o := 1) (by omega) (.int .i64 0)).setCell (b := R) (o := 2) (by omega) (.slice none 0 0))
  have z0 := E.cell 0
  have z1 := E.cell 1
  have z2 := E.cell 2
  exact bodyPost_ret (v := .tuple #[.agg #[.int .i64 0, .int .i64 0, .slice none 0 0], .int .i64 161]) (by simp [results, Tryd.results10, go_sem, z0, z1, z2]) rfl ⟨_, rfl, Ud.zero _, GE⟩
set_option maxHeartbeats 1000000 in
theorem refGetU_2 (a : Option Addr) (n c : Nat) (xs : List Int) (src dst : Int) (hsr : 0 ≤ src ∧ src < 4294967296) (hdr : 0 ≤ dst ∧ dst < 4294967296) (hs : ¬ ((n : Int) < 8)) {w : World} (hb : Buf w (.slice a n c) xs) (h1 : ¬ nU xs < 8) (h2 : xs.length < nU xs) :
    Calls Tryd.prog 10 #[.slice a n c, .int .u32 src, .int .u32 dst] w fun e w' => ∃ u, e = .returned (.tuple #[u, .int .i64 160]) ∧ Ud w' u zU ∧ Grew w w' := by
  have hn := hb.lenEq.1
  have hne : xs ≠ [] := by rintro rfl; simp at hn; omega
  obtain ⟨_, _, ea, _, hat⟩ := hb.shape
  simp only [Value.slice.injEq] at ea
  obtain ⟨rfl, hn', rfl⟩ := ea
  clear hn'
  obtain ⟨bk, off, rfl, hat2⟩ := hat hne
  have HBL := Lib.hid (hat2.lt hne)
  have HC6 : Hid (w.cell? ⟨bk, off + 6, none⟩ = some (.int .u8 (xs.getD 6 0))) := Lib.hid (hat2 6 (by omega))
  have HC7 : Hid (w.cell? ⟨bk, off + 7, none⟩ = some (.int .u8 (xs.getD 7 0))) := Lib.hid (hat2 7 (by omega))
  have hm0 := getG_lt (hb.ok.cut 4 6) true (n := 2) (cutL_length (by omega) (by omega)) (by omega)
  rw [show (2 : Int) ^ (8 * 2) = 65536 by decide] at hm0
  have hM : getV (cutL xs 4 6) true = ((nU xs : Nat) : Int) := by unfold nU; omega
  have HMB := Lib.hid (show nU xs ≤ 65535 by unfold nU; omega)
  obtain ⟨a4, c4, H4, x1, r4, x3, x4⟩ := hb.run_cut (lo := 4) (hi := 6) (by omega) (by omega)
  have r4 : ∀ w', (Instr.sliceAt 22 (.slice (some ⟨bk, off, none⟩) n c) (some (.int .i64 4)) (some (.int .i64 6)) none).run Tryd.prog w' = .ok (.slice a4 2 c4) w' := r4 .i64 .i64
  have HG4 := Lib.hid (fun w' (g : Grew w w') => refGetB_c (by rw [cutL_length (by omega) (by omega)]; omega) (H4.grew g))
  rw [hM] at HG4
  have ew4 : IntKind.i64.wrap ((nU xs : Nat) : Int) = ((nU xs : Nat) : Int) := IntWalk.i64_in _ (by have := HMB.out; omega)
  clear x1 x3 x4 hat hat2 hne hm0 hM H4
  have k1 : ¬ (((nU xs : Nat) : Int) < 8) := by omega
  have k2 : ((n : Nat) : Int) < ((nU xs : Nat) : Int) := by omega
  clear hb hn h1 h2
  generalize nU xs = N at *
  go_enter Tryd.func10, Tryd.ntmps10
  go_upto_region 1 with fail
  have hR : Blk (w.alloc (.cells #[.int .i64 0, .int .i64 0, .slice none 0 0] 24)) w.heap.size #[.int .i64 0, .int .i64 0, .slice none 0 0] 24 := Blk.new _ _ _ _ rfl
  have G : Grew w (w.alloc (.cells #[.int .i64 0, .int .i64 0, .slice none 0 0] 24)) := (Grew.refl _).alloc _
  generalize (w.alloc (.cells #[.int .i64 0, .int .i64 0, .slice none 0 0] 24)) = w0 at *
  generalize hlR : w.heap.size = R at *
  go_wp2_with fail
  refine (HG4.out _ G).mono ?_
  rintro e w1 ⟨rfl, g1⟩
  have G1 := G.trans g1
  have hR1 := hR.grew g1
  have y0 := hR1.cell 0
  have y1 := hR1.cell 1
  have y2 := hR1.cell 2
  have f0 := hR1.free 0
  have f1 := hR1.free 1
  have f2 := hR1.free 2
  go_wp2_with fail
  have E := (((hR1.set (o := 0) (.int .i64 0)).set (o := 1) (.int .i64 0)).set (o := 2) (.slice none 0 0))
  have GE := (((G1.setCell (b := R) (o := 0) (by omega) (.int .i64 0)).setCell (b := R) (o := 1) (by omega) (.int .i64 0)).setCell (b := R) (o := 2) (by omega) (.slice none 0 0))
  have z0 := E.cell 0
  have z1 := E.cell 1
  have z2 := E.cell 2
  exact bodyPost_ret (v := .tuple #[.agg #[.int .i64 0, .int .i64 0, .slice none 0 0], .int .i64 160]) (by simp [results, Tryd.results10, go_sem, z0, z1, z2]) rfl ⟨_, rfl, Ud.zero _, GE⟩
set_option maxHeartbeats 8000000 in
theorem refGetU_ay (a : Option Addr) (n c : Nat) (xs : List Int) (src dst : Int) (hsr : 0 ≤ src ∧ src < 4294967296) (hdr : 0 ≤ dst ∧ dst < 4294967296) (hs : ¬ ((n : Int) < 8)) {w : World} (hb : Buf w (.slice a n c) xs) (h1 : ¬ nU xs < 8) (h2 : ¬ xs.length < nU xs) (h6 : (xs.getD 6 0 != 0) = true) (hsm : sumV (psU src dst (nU xs) ++ cutL xs 0 (nU xs)) = 0) :
    Calls Tryd.prog 10 #[.slice a n c, .int .u32 src, .int .u32 dst] w fun e w' => ∃ u, e = .returned (.tuple #[u, .int .i64 0]) ∧ Ud w' u (udOf xs) ∧ Grew w w' := by
  have hn := hb.lenEq.1
  have hne : xs ≠ [] := by rintro rfl; simp at hn; omega
  obtain ⟨_, _, ea, _, hat⟩ := hb.shape
  simp only [Value.slice.injEq] at ea
  obtain ⟨rfl, hn', rfl⟩ := ea
  clear hn'
  obtain ⟨bk, off, rfl, hat2⟩ := hat hne
  have HBL := Lib.hid (hat2.lt hne)
  have HC6 : Hid (w.cell? ⟨bk, off + 6, none⟩ = some (.int .u8 (xs.getD 6 0))) := Lib.hid (hat2 6 (by omega))
  have HC7 : Hid (w.cell? ⟨bk, off + 7, none⟩ = some (.int .u8 (xs.getD 7 0))) := Lib.hid (hat2 7 (by omega))
  have hm0 := getG_lt (hb.ok.cut 4 6) true (n := 2) (cutL_length (by omega) (by omega)) (by omega)
  rw [show (2 : Int) ^ (8 * 2) = 65536 by decide] at hm0
  have hM : getV (cutL xs 4 6) true = ((nU xs : Nat) : Int) := by unfold nU; omega
  have HMB := Lib.hid (show nU xs ≤ 65535 by unfold nU; omega)
  obtain ⟨a4, c4, H4, x1, r4, x3, x4⟩ := hb.run_cut (lo := 4) (hi := 6) (by omega) (by omega)
  have r4 : ∀ w', (Instr.sliceAt 22 (.slice (some ⟨bk, off, none⟩) n c) (some (.int .i64 4)) (some (.int .i64 6)) none).run Tryd.prog w' = .ok (.slice a4 2 c4) w' := r4 .i64 .i64
  have HG4 := Lib.hid (fun w' (g : Grew w w') => refGetB_c (by rw [cutL_length (by omega) (by omega)]; omega) (H4.grew g))
  rw [hM] at HG4
  have ew4 : IntKind.i64.wrap ((nU xs : Nat) : Int) = ((nU xs : Nat) : Int) := IntWalk.i64_in _ (by have := HMB.out; omega)
  clear x1 x3 x4 hat hat2 hne hm0 hM H4
  have k1 : ¬ (((nU xs : Nat) : Int) < 8) := by omega
  have k2 : ¬ (((n : Nat) : Int) < ((nU xs : Nat) : Int)) := by omega
  have k6 : (6 : Int) < (n : Nat) := by omega
  have k7 : (7 : Int) < (n : Nat) := by omega
  have HB := Lib.hid hb
  obtain ⟨a9, c9, H9, x1, x2, x3, x4⟩ := HB.out.run_cut (lo := 0) (hi := (nU xs)) (by omega) (by omega)
  have HR9 : Hid (∀ w', (Instr.sliceAt 22 (.slice (some ⟨bk, off, none⟩) n c) none (some (.int .i64 ((nU xs : Nat) : Int))) none).run Tryd.prog w' = .ok (.slice a9 (nU xs) c9) w') := Lib.hid (x3 rfl .i64)
  replace H9 : Hid (Buf w (.slice a9 (nU xs) c9) (cutL xs 0 (nU xs))) := Lib.hid H9
  clear x1 x2 x3 x4
  have HSM := Lib.hid (show decide (sumV (psU src dst (nU xs) ++ cutL xs 0 (nU xs)) = 0) = true from decide_eq_true hsm)
  have HL9 := Lib.hid (show (psU src dst (nU xs)).length + (cutL xs 0 (nU xs)).length ≤ 140737488355328 by rw [psU_len, cutL_length (by omega) (by omega)]; have := HMB.out; omega)
  have HO9 := Lib.hid ((psU_ok src dst (nU xs)).append (HB.out.ok.cut 0 (nU xs)))
  clear hsm
  obtain ⟨a0, c0, H0, x1, x2, x3, x4⟩ := HB.out.run_cut (lo := 0) (hi := 2) (by omega) (by omega)
  have HR0 : Hid (∀ w', (Instr.sliceAt 22 (.slice (some ⟨bk, off, none⟩) n c) none (some (.int .i64 2)) none).run Tryd.prog w' = .ok (.slice a0 2 c0) w') := Lib.hid (x3 rfl .i64)
  replace H0 : Hid (Buf w (.slice a0 2 c0) (cutL xs 0 2)) := Lib.hid H0
  clear x1 x2 x3 x4
  obtain ⟨a2, c2, H2, x1, x2, x3, x4⟩ := HB.out.run_cut (lo := 2) (hi := 4) (by omega) (by omega)
  have HR2 : Hid (∀ w', (Instr.sliceAt 22 (.slice (some ⟨bk, off, none⟩) n c) (some (.int .i64 2)) (some (.int .i64 4)) none).run Tryd.prog w' = .ok (.slice a2 2 c2) w') := Lib.hid (x2 .i64 .i64)
  replace H2 : Hid (Buf w (.slice a2 2 c2) (cutL xs 2 4)) := Lib.hid H2
  clear x1 x2 x3 x4
  obtain ⟨a8, c8, H8, x1, x2, x3, x4⟩ := HB.out.run_cut (lo := 8) (hi := (nU xs)) (by omega) (by omega)
  have HR8 : Hid (∀ w', (Instr.sliceAt 22 (.slice (some ⟨bk, off, none⟩) n c) (some (.int .i64 8)) (some (.int .i64 ((nU xs : Nat) : Int))) none).run Tryd.prog w' = .ok (.slice a8 ((nU xs) - 8) c8) w') := Lib.hid (x2 .i64 .i64)
  replace H8 : Hid (Buf w (.slice a8 ((nU xs) - 8) c8) (cutL xs 8 (nU xs))) := Lib.hid H8
  clear x1 x2 x3 x4
  have HG0 := Lib.hid (fun w' (g : Grew w w') => refGetB_c (by rw [cutL_length (by omega) (by omega)]; omega) (H0.out.grew g))
  have hg0 := getG_lt (HB.out.ok.cut 0 2) true (n := 2) (cutL_length (by omega) (by omega)) (by omega)
  rw [show (2 : Int) ^ (8 * 2) = 65536 by decide] at hg0
  have HG2 := Lib.hid (fun w' (g : Grew w w') => refGetB_c (by rw [cutL_length (by omega) (by omega)]; omega) (H2.out.grew g))
  have hg2 := getG_lt (HB.out.ok.cut 2 4) true (n := 2) (cutL_length (by omega) (by omega)) (by omega)
  rw [show (2 : Int) ^ (8 * 2) = 65536 by decide] at hg2
  have HF : Hid (udOf xs = ⟨getV (cutL xs 0 2) true, getV (cutL xs 2 4) true, cutL xs 8 (nU xs)⟩) := Lib.hid rfl
  have HL8 := Lib.hid (show ([] : List Int).length + (cutL xs 8 (nU xs)).length ≤ 140737488355328 by rw [cutL_length (by omega) (by omega)]; have := HMB.out; simp; omega)
  have HO8 := Lib.hid (HB.out.ok.cut 8 (nU xs))
  generalize getV (cutL xs 0 2) true = g0 at *
  generalize getV (cutL xs 2 4) true = g2 at *
  have Ew0 := Lib.hid (show IntKind.i64.wrap g0 = g0 from IntWalk.i64_in _ (by omega))
  have Ew2 := Lib.hid (show IntKind.i64.wrap g2 = g2 from IntWalk.i64_in _ (by omega))
  have HI := Lib.hid (show intI g0 ∧ intI g2 by unfold intI; omega)
  clear hg0 hg2
  have H6 := Lib.hid h6
  clear hb hn h1 h2 h6 
  generalize nU xs = N at *
  generalize xs.getD 6 0 = y6 at *
  generalize xs.getD 7 0 = y7 at *
  go_enter Tryd.func10, Tryd.ntmps10
  go_upto_region 1 with fail
  have hR : Blk (w.alloc (.cells #[.int .i64 0, .int .i64 0, .slice none 0 0] 24)) w.heap.size #[.int .i64 0, .int .i64 0, .slice none 0 0] 24 := Blk.new _ _ _ _ rfl
  have G : Grew w (w.alloc (.cells #[.int .i64 0, .int .i64 0, .slice none 0 0] 24)) := (Grew.refl _).alloc _
  generalize (w.alloc (.cells #[.int .i64 0, .int .i64 0, .slice none 0 0] 24)) = w0 at *
  generalize hlR : w.heap.size = R at *
  have hwR : w.heap.size ≤ R := Nat.le_of_eq hlR
  go_wp2_with fail
  refine (HG4.out _ G).mono ?_
  rintro e w1 ⟨rfl, g1⟩
  have G1 := G.trans g1
  have hR1 := hR.grew g1
  go_upto_region 8 with fail
  clear ew4 r4
  have hst := (Grew.refl w1).drew1
  refine wp_region_held_drew (S := fun w' => Grew w1 w') (by kernel_rfl) (by exact hst) (fun hHeld => ?_)
  replace hHeld : Grew w1 w1.drew := hHeld
  generalize w1.drew = wq1 at *
  refine wpAnyH_take (i := 0) (v := ?_) rfl (by kernel_rfl) (by kernel_rfl) (by kernel_rfl) (fun _ _ _ h => h) (Or.inl ⟨by rfl, ?_⟩) hHeld ?_
  rotate_left
  · intro wq hSw
    replace hSw : Grew w1 wq := hSw
    go_simp
    try with_reducible rfl
  try simp only [List.getElem_toArray, List.getElem_cons_succ, List.getElem_cons_zero, Act.put, List.setIfInBounds_toArray, List.set_cons_zero, List.set_cons_succ]
  refine wpAnyH_take (i := 1) (v := ?_) rfl (by kernel_rfl) (by kernel_rfl) (by kernel_rfl) (fun _ _ _ h => h) (Or.inl ⟨by rfl, ?_⟩) hHeld ?_
  rotate_left
  · intro wq hSw
    replace hSw : Grew w1 wq := hSw
    have k6' := k6
    go_simp
    try with_reducible rfl
  try simp only [List.getElem_toArray, List.getElem_cons_succ, List.getElem_cons_zero, Act.put, List.setIfInBounds_toArray, List.set_cons_zero, List.set_cons_succ]
  refine wpAnyH_take (i := 2) (v := ?_) rfl (by kernel_rfl) (by kernel_rfl) (by kernel_rfl) (fun _ _ _ h => h) (Or.inl ⟨by rfl, ?_⟩) hHeld ?_
  rotate_left
  · intro wq hSw
    replace hSw : Grew w1 wq := hSw
    have z6 : wq.cell? ⟨bk, off + 6, none⟩ = some (.int .u8 y6) := by rw [(gcell (G1.trans hSw)).1 bk _ (by rw [hlR]; exact HBL.out)]; exact HC6.out
    go_simp
    try with_reducible rfl
  try simp only [List.getElem_toArray, List.getElem_cons_succ, List.getElem_cons_zero, Act.put, List.setIfInBounds_toArray, List.set_cons_zero, List.set_cons_succ]
  refine wpAnyH_take (i := 3) (v := ?_) rfl (by kernel_rfl) (by kernel_rfl) (by kernel_rfl) (fun _ _ _ h => h) (Or.inl ⟨by rfl, ?_⟩) hHeld ?_
  rotate_left
  · intro wq hSw
    replace hSw : Grew w1 wq := hSw
    have h6 := H6.out
    go_simp
    try with_reducible rfl
  try simp only [List.getElem_toArray, List.getElem_cons_succ, List.getElem_cons_zero, Act.put, List.setIfInBounds_toArray, List.set_cons_zero, List.set_cons_succ]
  refine wpAnyH_take (i := 4) (v := ?_) rfl (by kernel_rfl) (by kernel_rfl) (by kernel_rfl) (fun _ _ _ h => h) (Or.inl ⟨by rfl, ?_⟩) hHeld ?_
  rotate_left
  · intro wq hSw
    replace hSw : Grew w1 wq := hSw
    go_simp
    try with_reducible rfl
  try simp only [List.getElem_toArray, List.getElem_cons_succ, List.getElem_cons_zero, Act.put, List.setIfInBounds_toArray, List.set_cons_zero, List.set_cons_succ]
  refine wpAnyH_take (i := 5) (v := undef) rfl (by kernel_rfl) (by kernel_rfl) (by kernel_rfl) (fun _ _ _ h => h) (Or.inr ⟨by rfl, rfl⟩) hHeld ?_
  try simp only [List.getElem_toArray, List.getElem_cons_succ, List.getElem_cons_zero, Act.put, List.setIfInBounds_toArray, List.set_cons_zero, List.set_cons_succ]
  refine wpAnyH_take (i := 6) (v := undef) rfl (by kernel_rfl) (by kernel_rfl) (by kernel_rfl) (fun _ _ _ h => h) (Or.inr ⟨by rfl, rfl⟩) hHeld ?_
  try simp only [List.getElem_toArray, List.getElem_cons_succ, List.getElem_cons_zero, Act.put, List.setIfInBounds_toArray, List.set_cons_zero, List.set_cons_succ]
  refine wpAnyH_take (i := 7) (v := undef) rfl (by kernel_rfl) (by kernel_rfl) (by kernel_rfl) (fun _ _ _ h => h) (Or.inr ⟨by rfl, rfl⟩) hHeld ?_
  try simp only [List.getElem_toArray, List.getElem_cons_succ, List.getElem_cons_zero, Act.put, List.setIfInBounds_toArray, List.set_cons_zero, List.set_cons_succ]
  refine wpAnyH_take (i := 8) (v := undef) rfl (by kernel_rfl) (by kernel_rfl) (by kernel_rfl) (fun _ _ _ h => h) (Or.inr ⟨by rfl, rfl⟩) hHeld ?_
  try simp only [List.getElem_toArray, List.getElem_cons_succ, List.getElem_cons_zero, Act.put, List.setIfInBounds_toArray, List.set_cons_zero, List.set_cons_succ]
  refine wpAnyH_take (i := 9) (v := ?_) rfl (by kernel_rfl) (by kernel_rfl) (by kernel_rfl) (fun _ _ _ h => h) (Or.inl ⟨by rfl, ?_⟩) hHeld ?_
  rotate_left
  · intro wq hSw
    replace hSw : Grew w1 wq := hSw
    go_simp
    try with_reducible rfl
  try simp only [List.getElem_toArray, List.getElem_cons_succ, List.getElem_cons_zero, Act.put, List.setIfInBounds_toArray, List.set_cons_zero, List.set_cons_succ]
  refine wpAnyH_take (i := 10) (v := ?_) rfl (by kernel_rfl) (by kernel_rfl) (by kernel_rfl) (fun _ _ _ h => h) (Or.inl ⟨by rfl, ?_⟩) hHeld ?_
  rotate_left
  · intro wq hSw
    replace hSw : Grew w1 wq := hSw
    go_simp
    try with_reducible rfl
  try simp only [List.getElem_toArray, List.getElem_cons_succ, List.getElem_cons_zero, Act.put, List.setIfInBounds_toArray, List.set_cons_zero, List.set_cons_succ]
  refine wpAnyH_take (i := 11) (v := ?_) rfl (by kernel_rfl) (by kernel_rfl) (by kernel_rfl) (fun _ _ _ h => h) (Or.inl ⟨by rfl, ?_⟩) hHeld ?_
  rotate_left
  · intro wq hSw
    replace hSw : Grew w1 wq := hSw
    go_simp
    try with_reducible rfl
  try simp only [List.getElem_toArray, List.getElem_cons_succ, List.getElem_cons_zero, Act.put, List.setIfInBounds_toArray, List.set_cons_zero, List.set_cons_succ]
  refine wpAnyH_take (i := 12) (v := ?_) rfl (by kernel_rfl) (by kernel_rfl) (by kernel_rfl) (fun _ _ _ h => h) (Or.inl ⟨by rfl, ?_⟩) hHeld ?_
  rotate_left
  · intro wq hSw
    replace hSw : Grew w1 wq := hSw
    go_simp
    try with_reducible rfl
  try simp only [List.getElem_toArray, List.getElem_cons_succ, List.getElem_cons_zero, Act.put, List.setIfInBounds_toArray, List.set_cons_zero, List.set_cons_succ]
  refine wpAnyH_take (i := 13) (v := ?_) rfl (by kernel_rfl) (by kernel_rfl) (by kernel_rfl) (fun _ _ _ h => h) (Or.inl ⟨by rfl, ?_⟩) hHeld ?_
  rotate_left
  · intro wq hSw
    replace hSw : Grew w1 wq := hSw
    go_simp
    try with_reducible rfl
  try simp only [List.getElem_toArray, List.getElem_cons_succ, List.getElem_cons_zero, Act.put, List.setIfInBounds_toArray, List.set_cons_zero, List.set_cons_succ]
  refine wpAnyH_take (i := 15) (v := ?_) rfl (by kernel_rfl) (by kernel_rfl) (by kernel_rfl) (fun _ _ _ h => h) (Or.inl ⟨by rfl, ?_⟩) hHeld ?_
  rotate_left
  · intro wq hSw
    replace hSw : Grew w1 wq := hSw
    go_simp
    try with_reducible rfl
  try simp only [List.getElem_toArray, List.getElem_cons_succ, List.getElem_cons_zero, Act.put, List.setIfInBounds_toArray, List.set_cons_zero, List.set_cons_succ]
  refine wpAnyH_take (i := 16) (v := ?_) rfl (by kernel_rfl) (by kernel_rfl) (by kernel_rfl) (fun _ _ _ h => h) (Or.inl ⟨by rfl, ?_⟩) hHeld ?_
  rotate_left
  · intro wq hSw
    replace hSw : Grew w1 wq := hSw
    go_simp
    try with_reducible rfl
  try simp only [List.getElem_toArray, List.getElem_cons_succ, List.getElem_cons_zero, Act.put, List.setIfInBounds_toArray, List.set_cons_zero, List.set_cons_succ]
  refine wpAnyH_take (i := 17) (v := ?_) rfl (by kernel_rfl) (by kernel_rfl) (by kernel_rfl) (fun _ _ _ h => h) (Or.inl ⟨by rfl, ?_⟩) hHeld ?_
  rotate_left
  · intro wq hSw
    replace hSw : Grew w1 wq := hSw
    have r := HR9.out
    go_simp
    try with_reducible rfl
  try simp only [List.getElem_toArray, List.getElem_cons_succ, List.getElem_cons_zero, Act.put, List.setIfInBounds_toArray, List.set_cons_zero, List.set_cons_succ]
  refine wpAnyH_ready (rs := [14]) (by kernel_rfl) (by simp) ?_
  refine AllReadyH.cons rfl (fun K hK => ?_) AllReadyH.nil
  go_simp
  refine (refPseudo_c src dst 17 (N : Nat) hsr hdr (by omega) (by have := HMB.out; omega) wq1).mono ?_
  rintro e wk2 ⟨u1, rfl, R1, b1, gk2⟩
  replace R1 := Lib.hid (R1.low hHeld.size)
  clear b1
  refine hK.out _ _ (hHeld.trans gk2) (fun hHeld => ?_)
  clear hK K
  try simp only [List.getElem_toArray, List.getElem_cons_succ, List.getElem_cons_zero, Act.put, List.setIfInBounds_toArray, List.set_cons_zero, List.set_cons_succ]
  refine wpAnyH_ready (rs := [18]) (by kernel_rfl) (by simp) ?_
  refine AllReadyH.cons rfl (fun K hK => ?_) AllReadyH.nil
  refine step_append_off (by rfl) (.tmp 39) (.tmp 42) rfl hHeld R1.out (H9.out.grew (G1.trans hHeld)) (by rfl) (by rfl) HL9.out ?_
  intro v18 wk3 R2 gk3 KO gb
  clear KO gb
  refine hK.out _ _ (gk3) (fun hHeld => ?_)
  clear hK K
  try simp only [List.getElem_toArray, List.getElem_cons_succ, List.getElem_cons_zero, Act.put, List.setIfInBounds_toArray, List.set_cons_zero, List.set_cons_succ]
  refine wpAnyH_ready (rs := [19]) (by kernel_rfl) (by simp) ?_
  refine AllReadyH.cons rfl (fun K hK => ?_) AllReadyH.nil
  go_simp
  refine (refRight_c wk3 (R2.out.buf HO9.out) (by rw [List.length_append]; exact HL9.out)).mono ?_
  rintro e wk4 ⟨rfl, gk4⟩
  rw [show decide (sumV (pseudoV src dst 17 ((N : Nat) : Int) ++ cutL xs 0 N) = 0) = true from HSM.out]
  refine hK.out _ _ (hHeld.trans gk4) (fun hHeld => ?_)
  clear hK K
  try simp only [List.getElem_toArray, List.getElem_cons_succ, List.getElem_cons_zero, Act.put, List.setIfInBounds_toArray, List.set_cons_zero, List.set_cons_succ]
  refine wpAnyH_take (i := 20) (v := ?_) rfl (by kernel_rfl) (by kernel_rfl) (by kernel_rfl) (fun _ _ _ h => h) (Or.inl ⟨by rfl, ?_⟩) hHeld ?_
  rotate_left
  · intro wq hSw
    replace hSw : Grew w1 wq := hSw
    go_simp
    try with_reducible rfl
  try simp only [List.getElem_toArray, List.getElem_cons_succ, List.getElem_cons_zero, Act.put, List.setIfInBounds_toArray, List.set_cons_zero, List.set_cons_succ]
  refine wpAnyH_take (i := 21) (v := ?_) rfl (by kernel_rfl) (by kernel_rfl) (by kernel_rfl) (fun _ _ _ h => h) (Or.inl ⟨by rfl, ?_⟩) hHeld ?_
  rotate_left
  · intro wq hSw
    replace hSw : Grew w1 wq := hSw
    go_simp
    try with_reducible rfl
  try simp only [List.getElem_toArray, List.getElem_cons_succ, List.getElem_cons_zero, Act.put, List.setIfInBounds_toArray, List.set_cons_zero, List.set_cons_succ]
  refine wpAnyH_done (by kernel_rfl) ?_ _
  try simp only [List.getElem_toArray, List.getElem_cons_succ, List.getElem_cons_zero, Act.put, List.setIfInBounds_toArray, List.set_cons_zero, List.set_cons_succ]
  have G2 := G1.trans hHeld
  have hR2 := hR1.grew hHeld
  clear hHeld hR1 hR G g1
  have HRR := Lib.hid hR2
  clear hR2
  go_upto_region 10 with fail
  replace HRR := Lib.hid (HRR.out.grew ((Grew.refl wk4).drew1))
  have hst := G2.drew1
  refine wp_region_held_drew (S := fun w' => Grew w w') (by kernel_rfl) (by exact hst) (fun hHeld => ?_)
  replace hHeld : Grew w wk4.drew := hHeld
  generalize wk4.drew = wq5 at *
  refine wpAnyH_take (i := 0) (v := ?_) rfl (by kernel_rfl) (by kernel_rfl) (by kernel_rfl) (fun _ _ _ h => h) (Or.inl ⟨by rfl, ?_⟩) hHeld ?_
  rotate_left
  · intro wq hSw
    replace hSw : Grew w wq := hSw
    go_simp
    try with_reducible rfl
  try simp only [List.getElem_toArray, List.getElem_cons_succ, List.getElem_cons_zero, Act.put, List.setIfInBounds_toArray, List.set_cons_zero, List.set_cons_succ]
  refine wpAnyH_take (i := 1) (v := ?_) rfl (by kernel_rfl) (by kernel_rfl) (by kernel_rfl) (fun _ _ _ h => h) (Or.inl ⟨by rfl, ?_⟩) hHeld ?_
  rotate_left
  · intro wq hSw
    replace hSw : Grew w wq := hSw
    have r := HR0.out
    go_simp
    try with_reducible rfl
  try simp only [List.getElem_toArray, List.getElem_cons_succ, List.getElem_cons_zero, Act.put, List.setIfInBounds_toArray, List.set_cons_zero, List.set_cons_succ]
  refine wpAnyH_take (i := 4) (v := ?_) rfl (by kernel_rfl) (by kernel_rfl) (by kernel_rfl) (fun _ _ _ h => h) (Or.inl ⟨by rfl, ?_⟩) hHeld ?_
  rotate_left
  · intro wq hSw
    replace hSw : Grew w wq := hSw
    go_simp
    try with_reducible rfl
  try simp only [List.getElem_toArray, List.getElem_cons_succ, List.getElem_cons_zero, Act.put, List.setIfInBounds_toArray, List.set_cons_zero, List.set_cons_succ]
  refine wpAnyH_take (i := 5) (v := ?_) rfl (by kernel_rfl) (by kernel_rfl) (by kernel_rfl) (fun _ _ _ h => h) (Or.inl ⟨by rfl, ?_⟩) hHeld ?_
  rotate_left
  · intro wq hSw
    replace hSw : Grew w wq := hSw
    have r := HR2.out
    go_simp
    try with_reducible rfl
  try simp only [List.getElem_toArray, List.getElem_cons_succ, List.getElem_cons_zero, Act.put, List.setIfInBounds_toArray, List.set_cons_zero, List.set_cons_succ]
  refine wpAnyH_take (i := 9) (v := ?_) rfl (by kernel_rfl) (by kernel_rfl) (by kernel_rfl) (fun _ _ _ h => h) (Or.inl ⟨by rfl, ?_⟩) hHeld ?_
  rotate_left
  · intro wq hSw
    replace hSw : Grew w wq := hSw
    go_simp
    try with_reducible rfl
  try simp only [List.getElem_toArray, List.getElem_cons_succ, List.getElem_cons_zero, Act.put, List.setIfInBounds_toArray, List.set_cons_zero, List.set_cons_succ]
  refine wpAnyH_take (i := 10) (v := ?_) rfl (by kernel_rfl) (by kernel_rfl) (by kernel_rfl) (fun _ _ _ h => h) (Or.inl ⟨by rfl, ?_⟩) hHeld ?_
  rotate_left
  · intro wq hSw
    replace hSw : Grew w wq := hSw
    go_simp
    try with_reducible rfl
  try simp only [List.getElem_toArray, List.getElem_cons_succ, List.getElem_cons_zero, Act.put, List.setIfInBounds_toArray, List.set_cons_zero, List.set_cons_succ]
  refine wpAnyH_take (i := 11) (v := ?_) rfl (by kernel_rfl) (by kernel_rfl) (by kernel_rfl) (fun _ _ _ h => h) (Or.inl ⟨by rfl, ?_⟩) hHeld ?_
  rotate_left
  · intro wq hSw
    replace hSw : Grew w wq := hSw
    have r := HR8.out
    go_simp
    try with_reducible rfl
  try simp only [List.getElem_toArray, List.getElem_cons_succ, List.getElem_cons_zero, Act.put, List.setIfInBounds_toArray, List.set_cons_zero, List.set_cons_succ]
  refine wpAnyH_ready (rs := [2, 8]) (by kernel_rfl) (by simp) ?_
  refine AllReadyH.cons rfl (fun K hK => ?_) (AllReadyH.cons rfl (fun K hK => ?_) AllReadyH.nil)
  · go_simp
    refine (HG0.out _ hHeld).mono ?_
    rintro e wk6 ⟨rfl, gk6⟩
    replace HRR := Lib.hid (HRR.out.grew gk6)
    refine hK.out _ _ (hHeld.trans gk6) (fun hHeld => ?_)
    clear hK K
    try simp only [List.getElem_toArray, List.getElem_cons_succ, List.getElem_cons_zero, Act.put, List.setIfInBounds_toArray, List.set_cons_zero, List.set_cons_succ]
    refine wpAnyH_take (i := 3) (v := ?_) rfl (by kernel_rfl) (by kernel_rfl) (by kernel_rfl) (fun _ _ _ h => h) (Or.inl ⟨by rfl, ?_⟩) hHeld ?_
    rotate_left
    · intro wq hSw
      replace hSw : Grew w wq := hSw
      have ew := Ew0.out
      go_simp
      try with_reducible rfl
    try simp only [List.getElem_toArray, List.getElem_cons_succ, List.getElem_cons_zero, Act.put, List.setIfInBounds_toArray, List.set_cons_zero, List.set_cons_succ]
    refine wpAnyH_ready (rs := [6, 8]) (by kernel_rfl) (by simp) ?_
    refine AllReadyH.cons rfl (fun K hK => ?_) (AllReadyH.cons rfl (fun K hK => ?_) AllReadyH.nil)
    · go_simp
      refine (HG2.out _ hHeld).mono ?_
      rintro e wk7 ⟨rfl, gk7⟩
      replace HRR := Lib.hid (HRR.out.grew gk7)
      refine hK.out _ _ (hHeld.trans gk7) (fun hHeld => ?_)
      clear hK K
      try simp only [List.getElem_toArray, List.getElem_cons_succ, List.getElem_cons_zero, Act.put, List.setIfInBounds_toArray, List.set_cons_zero, List.set_cons_succ]
      refine wpAnyH_take (i := 7) (v := ?_) rfl (by kernel_rfl) (by kernel_rfl) (by kernel_rfl) (fun _ _ _ h => h) (Or.inl ⟨by rfl, ?_⟩) hHeld ?_
      rotate_left
      · intro wq hSw
        replace hSw : Grew w wq := hSw
        have ew := Ew2.out
        go_simp
        try with_reducible rfl
      try simp only [List.getElem_toArray, List.getElem_cons_succ, List.getElem_cons_zero, Act.put, List.setIfInBounds_toArray, List.set_cons_zero, List.set_cons_succ]
      refine wpAnyH_ready (rs := [8]) (by kernel_rfl) (by simp) ?_
      refine AllReadyH.cons rfl (fun K hK => ?_) AllReadyH.nil
      go_simp
      have lo := hHeld.size
      have hRQ := HRR.out.lt
      have R0 : Row (wk7.alloc (.cells #[] 5)) wk7.heap.size (.slice (some ⟨wk7.heap.size, 0, none⟩) 0 0) [] := Row.lit wk7 wk7.heap.size (Nat.le_refl _) #[] [] rfl (by unfold maxLen; simp) _ rfl 0 rfl
      replace R0 := Lib.hid (R0.low lo)
      have gk8 : Grew wk7 (wk7.alloc (.cells #[] 5)) := (Grew.refl _).alloc _
      replace HRR := Lib.hid (HRR.out.grew gk8)
      generalize (wk7.alloc (.cells #[] 5)) = wk8 at *
      generalize wk7.heap.size = Q0 at *
      refine hK.out _ _ (hHeld.trans gk8) (fun hHeld => ?_)
      clear hK K
      try simp only [List.getElem_toArray, List.getElem_cons_succ, List.getElem_cons_zero, Act.put, List.setIfInBounds_toArray, List.set_cons_zero, List.set_cons_succ]
      refine wpAnyH_ready (rs := [12]) (by kernel_rfl) (by simp) ?_
      refine AllReadyH.cons rfl (fun K hK => ?_) AllReadyH.nil
      refine step_append_off (by rfl) (.tmp 56) (.tmp 59) rfl hHeld R0.out (H8.out.grew hHeld) (by rfl) (by rfl) HL8.out ?_
      intro v12 wk9 R12 gk9 KO gb
      have hb12 := R12.out.buf HO8.out
      obtain ⟨p12, k12, rfl, z1, z2⟩ := hb12.shape
      have H12 := Lib.hid hb12
      replace HRR := Lib.hid (HRR.out.grownBy gb (by simp only [Value.ownBlock, ne_eq, Option.some.injEq]; omega))
      clear z1 z2 hb12 R12 KO gb
      refine hK.out _ _ (gk9) (fun hHeld => ?_)
      clear hK K
      try simp only [List.getElem_toArray, List.getElem_cons_succ, List.getElem_cons_zero, Act.put, List.setIfInBounds_toArray, List.set_cons_zero, List.set_cons_succ]
      refine wpAnyH_take (i := 13) (v := ?_) rfl (by kernel_rfl) (by kernel_rfl) (by kernel_rfl) (fun _ _ _ h => h) (Or.inl ⟨by rfl, ?_⟩) hHeld ?_
      rotate_left
      · intro wq hSw
        replace hSw : Grew w wq := hSw
        go_simp
        try with_reducible rfl
      try simp only [List.getElem_toArray, List.getElem_cons_succ, List.getElem_cons_zero, Act.put, List.setIfInBounds_toArray, List.set_cons_zero, List.set_cons_succ]
      refine wpAnyH_ready (rs := [14]) (by kernel_rfl) (by simp) ?_
      refine AllReadyH.cons rfl (fun K hK => ?_) AllReadyH.nil
      have hRk := HRR.out
      have x0 := hRk.cell 0
      have x1 := hRk.cell 1
      have x2 := hRk.cell 2
      have q0 := hRk.free 0
      have q1 := hRk.free 1
      have q2 := hRk.free 2
      go_simp
      have EB := Lib.hid (((hRk.set (o := 0) (.int .i64 g0)).set (o := 1) (.int .i64 g2)).set (o := 2) (.slice p12 (cutL xs 8 N).length k12))
      have KK := (((BufsKept.box (o := 0) hRk (by simp [noU8]) (.int .i64 g0)).trans (BufsKept.box (o := 1) (hRk.set (o := 0) (.int .i64 g0)) (by simp [noU8]) (.int .i64 g2))).trans (BufsKept.box (o := 2) ((hRk.set (o := 0) (.int .i64 g0)).set (o := 1) (.int .i64 g2)) (by simp [noU8]) (.slice p12 (cutL xs 8 N).length k12)))
      have GE := (((hHeld.setCell (b := R) (o := 0) (hwR) (.int .i64 g0)).setCell (b := R) (o := 1) (hwR) (.int .i64 g2)).setCell (b := R) (o := 2) (hwR) (.slice p12 (cutL xs 8 N).length k12))
      have H13 := Lib.hid (KK _ _ H12.out)
      refine hK.out _ _ (GE) (fun hHeld => ?_)
      clear hK K
      try simp only [List.getElem_toArray, List.getElem_cons_succ, List.getElem_cons_zero, Act.put, List.setIfInBounds_toArray, List.set_cons_zero, List.set_cons_succ]
      refine wpAnyH_take (i := 15) (v := ?_) rfl (by kernel_rfl) (by kernel_rfl) (by kernel_rfl) (fun _ _ _ h => h) (Or.inl ⟨by rfl, ?_⟩) hHeld ?_
      rotate_left
      · intro wq hSw
        replace hSw : Grew w wq := hSw
        go_simp
        try with_reducible rfl
      try simp only [List.getElem_toArray, List.getElem_cons_succ, List.getElem_cons_zero, Act.put, List.setIfInBounds_toArray, List.set_cons_zero, List.set_cons_succ]
      refine wpAnyH_done (by kernel_rfl) ?_ _
      try simp only [List.getElem_toArray, List.getElem_cons_succ, List.getElem_cons_zero, Act.put, List.setIfInBounds_toArray, List.set_cons_zero, List.set_cons_succ]
      have EV := EB.out
      have z0 := EV.cell 0
      have z1 := EV.cell 1
      have z2 := EV.cell 2
      go_wp2_with fail
      rw [HF.out]
      exact bodyPost_ret (v := .tuple #[.agg #[.int .i64 g0, .int .i64 g2, .slice p12 (cutL xs 8 N).length k12], .int .i64 0]) (by simp [results, Tryd.results10, go_sem, z0, z1, z2]) rfl ⟨_, rfl, Ud.of H13.out HI.out.1 HI.out.2, hHeld⟩
    · go_simp
      have lo := hHeld.size
      have hRQ := HRR.out.lt
      have R0 : Row (wk6.alloc (.cells #[] 5)) wk6.heap.size (.slice (some ⟨wk6.heap.size, 0, none⟩) 0 0) [] := Row.lit wk6 wk6.heap.size (Nat.le_refl _) #[] [] rfl (by unfold maxLen; simp) _ rfl 0 rfl
      replace R0 := Lib.hid (R0.low lo)
      have gk10 : Grew wk6 (wk6.alloc (.cells #[] 5)) := (Grew.refl _).alloc _
      replace HRR := Lib.hid (HRR.out.grew gk10)
      generalize (wk6.alloc (.cells #[] 5)) = wk10 at *
      generalize wk6.heap.size = Q0 at *
      refine hK.out _ _ (hHeld.trans gk10) (fun hHeld => ?_)
      clear hK K
      try simp only [List.getElem_toArray, List.getElem_cons_succ, List.getElem_cons_zero, Act.put, List.setIfInBounds_toArray, List.set_cons_zero, List.set_cons_succ]
      refine wpAnyH_ready (rs := [6]) (by kernel_rfl) (by simp) ?_
      refine AllReadyH.cons rfl (fun K hK => ?_) AllReadyH.nil
      go_simp
      refine (HG2.out _ hHeld).mono ?_
      rintro e wk11 ⟨rfl, gk11⟩
      replace HRR := Lib.hid (HRR.out.grew gk11)
      replace R0 := Lib.hid (R0.out.grew gk11)
      refine hK.out _ _ (hHeld.trans gk11) (fun hHeld => ?_)
      clear hK K
      try simp only [List.getElem_toArray, List.getElem_cons_succ, List.getElem_cons_zero, Act.put, List.setIfInBounds_toArray, List.set_cons_zero, List.set_cons_succ]
      refine wpAnyH_take (i := 7) (v := ?_) rfl (by kernel_rfl) (by kernel_rfl) (by kernel_rfl) (fun _ _ _ h => h) (Or.inl ⟨by rfl, ?_⟩) hHeld ?_
      rotate_left
      · intro wq hSw
        replace hSw : Grew w wq := hSw
        have ew := Ew2.out
        go_simp
        try with_reducible rfl
      try simp only [List.getElem_toArray, List.getElem_cons_succ, List.getElem_cons_zero, Act.put, List.setIfInBounds_toArray, List.set_cons_zero, List.set_cons_succ]
      refine wpAnyH_ready (rs := [12]) (by kernel_rfl) (by simp) ?_
      refine AllReadyH.cons rfl (fun K hK => ?_) AllReadyH.nil
      refine step_append_off (by rfl) (.tmp 56) (.tmp 59) rfl hHeld R0.out (H8.out.grew hHeld) (by rfl) (by rfl) HL8.out ?_
      intro v12 wk12 R12 gk12 KO gb
      have hb12 := R12.out.buf HO8.out
      obtain ⟨p12, k12, rfl, z1, z2⟩ := hb12.shape
      have H12 := Lib.hid hb12
      replace HRR := Lib.hid (HRR.out.grownBy gb (by simp only [Value.ownBlock, ne_eq, Option.some.injEq]; omega))
      clear z1 z2 hb12 R12 KO gb
      refine hK.out _ _ (gk12) (fun hHeld => ?_)
      clear hK K
      try simp only [List.getElem_toArray, List.getElem_cons_succ, List.getElem_cons_zero, Act.put, List.setIfInBounds_toArray, List.set_cons_zero, List.set_cons_succ]
      refine wpAnyH_take (i := 13) (v := ?_) rfl (by kernel_rfl) (by kernel_rfl) (by kernel_rfl) (fun _ _ _ h => h) (Or.inl ⟨by rfl, ?_⟩) hHeld ?_
      rotate_left
      · intro wq hSw
        replace hSw : Grew w wq := hSw
        go_simp
        try with_reducible rfl
      try simp only [List.getElem_toArray, List.getElem_cons_succ, List.getElem_cons_zero, Act.put, List.setIfInBounds_toArray, List.set_cons_zero, List.set_cons_succ]
      refine wpAnyH_ready (rs := [14]) (by kernel_rfl) (by simp) ?_
      refine AllReadyH.cons rfl (fun K hK => ?_) AllReadyH.nil
      have hRk := HRR.out
      have x0 := hRk.cell 0
      have x1 := hRk.cell 1
      have x2 := hRk.cell 2
      have q0 := hRk.free 0
      have q1 := hRk.free 1
      have q2 := hRk.free 2
      go_simp
      have EB := Lib.hid (((hRk.set (o := 0) (.int .i64 g0)).set (o := 1) (.int .i64 g2)).set (o := 2) (.slice p12 (cutL xs 8 N).length k12))
      have KK := (((BufsKept.box (o := 0) hRk (by simp [noU8]) (.int .i64 g0)).trans (BufsKept.box (o := 1) (hRk.set (o := 0) (.int .i64 g0)) (by simp [noU8]) (.int .i64 g2))).trans (BufsKept.box (o := 2) ((hRk.set (o := 0) (.int .i64 g0)).set (o := 1) (.int .i64 g2)) (by simp [noU8]) (.slice p12 (cutL xs 8 N).length k12)))
      have GE := (((hHeld.setCell (b := R) (o := 0) (hwR) (.int .i64 g0)).setCell (b := R) (o := 1) (hwR) (.int .i64 g2)).setCell (b := R) (o := 2) (hwR) (.slice p12 (cutL xs 8 N).length k12))
      have H13 := Lib.hid (KK _ _ H12.out)
      refine hK.out _ _ (GE) (fun hHeld => ?_)
      clear hK K
      try simp only [List.getElem_toArray, List.getElem_cons_succ, List.getElem_cons_zero, Act.put, List.setIfInBounds_toArray, List.set_cons_zero, List.set_cons_succ]
      refine wpAnyH_take (i := 15) (v := ?_) rfl (by kernel_rfl) (by kernel_rfl) (by kernel_rfl) (fun _ _ _ h => h) (Or.inl ⟨by rfl, ?_⟩) hHeld ?_
      rotate_left
      · intro wq hSw
        replace hSw : Grew w wq := hSw
        go_simp
        try with_reducible rfl
      try simp only [List.getElem_toArray, List.getElem_cons_succ, List.getElem_cons_zero, Act.put, List.setIfInBounds_toArray, List.set_cons_zero, List.set_cons_succ]
      refine wpAnyH_done (by kernel_rfl) ?_ _
      try simp only [List.getElem_toArray, List.getElem_cons_succ, List.getElem_cons_zero, Act.put, List.setIfInBounds_toArray, List.set_cons_zero, List.set_cons_succ]
      have EV := EB.out
      have z0 := EV.cell 0
      have z1 := EV.cell 1
      have z2 := EV.cell 2
      go_wp2_with fail
      rw [HF.out]
      exact bodyPost_ret (v := .tuple #[.agg #[.int .i64 g0, .int .i64 g2, .slice p12 (cutL xs 8 N).length k12], .int .i64 0]) (by simp [results, Tryd.results10, go_sem, z0, z1, z2]) rfl ⟨_, rfl, Ud.of H13.out HI.out.1 HI.out.2, hHeld⟩
  · go_simp
    have lo := hHeld.size
    have hRQ := HRR.out.lt
    have R0 : Row (wq5.alloc (.cells #[] 5)) wq5.heap.size (.slice (some ⟨wq5.heap.size, 0, none⟩) 0 0) [] := Row.lit wq5 wq5.heap.size (Nat.le_refl _) #[] [] rfl (by unfold maxLen; simp) _ rfl 0 rfl
    replace R0 := Lib.hid (R0.low lo)
    have gk13 : Grew wq5 (wq5.alloc (.cells #[] 5)) := (Grew.refl _).alloc _
    replace HRR := Lib.hid (HRR.out.grew gk13)
    generalize (wq5.alloc (.cells #[] 5)) = wk13 at *
    generalize wq5.heap.size = Q0 at *
    refine hK.out _ _ (hHeld.trans gk13) (fun hHeld => ?_)
    clear hK K
    try simp only [List.getElem_toArray, List.getElem_cons_succ, List.getElem_cons_zero, Act.put, List.setIfInBounds_toArray, List.set_cons_zero, List.set_cons_succ]
    refine wpAnyH_ready (rs := [2]) (by kernel_rfl) (by simp) ?_
    refine AllReadyH.cons rfl (fun K hK => ?_) AllReadyH.nil
    go_simp
    refine (HG0.out _ hHeld).mono ?_
    rintro e wk14 ⟨rfl, gk14⟩
    replace HRR := Lib.hid (HRR.out.grew gk14)
    replace R0 := Lib.hid (R0.out.grew gk14)
    refine hK.out _ _ (hHeld.trans gk14) (fun hHeld => ?_)
    clear hK K
    try simp only [List.getElem_toArray, List.getElem_cons_succ, List.getElem_cons_zero, Act.put, List.setIfInBounds_toArray, List.set_cons_zero, List.set_cons_succ]
    refine wpAnyH_take (i := 3) (v := ?_) rfl (by kernel_rfl) (by kernel_rfl) (by kernel_rfl) (fun _ _ _ h => h) (Or.inl ⟨by rfl, ?_⟩) hHeld ?_
    rotate_left
    · intro wq hSw
      replace hSw : Grew w wq := hSw
      have ew := Ew0.out
      go_simp
      try with_reducible rfl
    try simp only [List.getElem_toArray, List.getElem_cons_succ, List.getElem_cons_zero, Act.put, List.setIfInBounds_toArray, List.set_cons_zero, List.set_cons_succ]
    refine wpAnyH_ready (rs := [6]) (by kernel_rfl) (by simp) ?_
    refine AllReadyH.cons rfl (fun K hK => ?_) AllReadyH.nil
    go_simp
    refine (HG2.out _ hHeld).mono ?_
    rintro e wk15 ⟨rfl, gk15⟩
    replace HRR := Lib.hid (HRR.out.grew gk15)
    replace R0 := Lib.hid (R0.out.grew gk15)
    refine hK.out _ _ (hHeld.trans gk15) (fun hHeld => ?_)
    clear hK K
    try simp only [List.getElem_toArray, List.getElem_cons_succ, List.getElem_cons_zero, Act.put, List.setIfInBounds_toArray, List.set_cons_zero, List.set_cons_succ]
    refine wpAnyH_take (i := 7) (v := ?_) rfl (by kernel_rfl) (by kernel_rfl) (by kernel_rfl) (fun _ _ _ h => h) (Or.inl ⟨by rfl, ?_⟩) hHeld ?_
    rotate_left
    · intro wq hSw
      replace hSw : Grew w wq := hSw
      have ew := Ew2.out
      go_simp
      try with_reducible rfl
    try simp only [List.getElem_toArray, List.getElem_cons_succ, List.getElem_cons_zero, Act.put, List.setIfInBounds_toArray, List.set_cons_zero, List.set_cons_succ]
    refine wpAnyH_ready (rs := [12]) (by kernel_rfl) (by simp) ?_
    refine AllReadyH.cons rfl (fun K hK => ?_) AllReadyH.nil
    refine step_append_off (by rfl) (.tmp 56) (.tmp 59) rfl hHeld R0.out (H8.out.grew hHeld) (by rfl) (by rfl) HL8.out ?_
    intro v12 wk16 R12 gk16 KO gb
    have hb12 := R12.out.buf HO8.out
    obtain ⟨p12, k12, rfl, z1, z2⟩ := hb12.shape
    have H12 := Lib.hid hb12
    replace HRR := Lib.hid (HRR.out.grownBy gb (by simp only [Value.ownBlock, ne_eq, Option.some.injEq]; omega))
    clear z1 z2 hb12 R12 KO gb
    refine hK.out _ _ (gk16) (fun hHeld => ?_)
    clear hK K
    try simp only [List.getElem_toArray, List.getElem_cons_succ, List.getElem_cons_zero, Act.put, List.setIfInBounds_toArray, List.set_cons_zero, List.set_cons_succ]
    refine wpAnyH_take (i := 13) (v := ?_) rfl (by kernel_rfl) (by kernel_rfl) (by kernel_rfl) (fun _ _ _ h => h) (Or.inl ⟨by rfl, ?_⟩) hHeld ?_
    rotate_left
    · intro wq hSw
      replace hSw : Grew w wq := hSw
      go_simp
      try with_reducible rfl
    try simp only [List.getElem_toArray, List.getElem_cons_succ, List.getElem_cons_zero, Act.put, List.setIfInBounds_toArray, List.set_cons_zero, List.set_cons_succ]
    refine wpAnyH_ready (rs := [14]) (by kernel_rfl) (by simp) ?_
    refine AllReadyH.cons rfl (fun K hK => ?_) AllReadyH.nil
    have hRk := HRR.out
    have x0 := hRk.cell 0
    have x1 := hRk.cell 1
    have x2 := hRk.cell 2
    have q0 := hRk.free 0
    have q1 := hRk.free 1
    have q2 := hRk.free 2
    go_simp
    have EB := Lib.hid (((hRk.set (o := 0) (.int .i64 g0)).set (o := 1) (.int .i64 g2)).set (o := 2) (.slice p12 (cutL xs 8 N).length k12))
    have KK := (((BufsKept.box (o := 0) hRk (by simp [noU8]) (.int .i64 g0)).trans (BufsKept.box (o := 1) (hRk.set (o := 0) (.int .i64 g0)) (by simp [noU8]) (.int .i64 g2))).trans (BufsKept.box (o := 2) ((hRk.set (o := 0) (.int .i64 g0)).set (o := 1) (.int .i64 g2)) (by simp [noU8]) (.slice p12 (cutL xs 8 N).length k12)))
    have GE := (((hHeld.setCell (b := R) (o := 0) (hwR) (.int .i64 g0)).setCell (b := R) (o := 1) (hwR) (.int .i64 g2)).setCell (b := R) (o := 2) (hwR) (.slice p12 (cutL xs 8 N).length k12))
    have H13 := Lib.hid (KK _ _ H12.out)
    refine hK.out _ _ (GE) (fun hHeld => ?_)
    clear hK K
    try simp only [List.getElem_toArray, List.getElem_cons_succ, List.getElem_cons_zero, Act.put, List.setIfInBounds_toArray, List.set_cons_zero, List.set_cons_succ]
    refine wpAnyH_take (i := 15) (v := ?_) rfl (by kernel_rfl) (by kernel_rfl) (by kernel_rfl) (fun _ _ _ h => h) (Or.inl ⟨by rfl, ?_⟩) hHeld ?_
    rotate_left
    · intro wq hSw
      replace hSw : Grew w wq := hSw
      go_simp
      try with_reducible rfl
    try simp only [List.getElem_toArray, List.getElem_cons_succ, List.getElem_cons_zero, Act.put, List.setIfInBounds_toArray, List.set_cons_zero, List.set_cons_succ]
    refine wpAnyH_done (by kernel_rfl) ?_ _
    try simp only [List.getElem_toArray, List.getElem_cons_succ, List.getElem_cons_zero, Act.put, List.setIfInBounds_toArray, List.set_cons_zero, List.set_cons_succ]
    have EV := EB.out
    have z0 := EV.cell 0
    have z1 := EV.cell 1
    have z2 := EV.cell 2
    go_wp2_with fail
    rw [HF.out]
    exact bodyPost_ret (v := .tuple #[.agg #[.int .i64 g0, .int .i64 g2, .slice p12 (cutL xs 8 N).length k12], .int .i64 0]) (by simp [results, Tryd.results10, go_sem, z0, z1, z2]) rfl ⟨_, rfl, Ud.of H13.out HI.out.1 HI.out.2, hHeld⟩
set_option maxHeartbeats 8000000 in
theorem refGetU_an (a : Option Addr) (n c : Nat) (xs : List Int) (src dst : Int) (hsr : 0 ≤ src ∧ src < 4294967296) (hdr : 0 ≤ dst ∧ dst < 4294967296) (hs : ¬ ((n : Int) < 8)) {w : World} (hb : Buf w (.slice a n c) xs) (h1 : ¬ nU xs < 8) (h2 : ¬ xs.length < nU xs) (h6 : (xs.getD 6 0 != 0) = true) (hsm : ¬ sumV (psU src dst (nU xs) ++ cutL xs 0 (nU xs)) = 0) :
    Calls Tryd.prog 10 #[.slice a n c, .int .u32 src, .int .u32 dst] w fun e w' => ∃ u, e = .returned (.tuple #[u, .int .i64 162]) ∧ Ud w' u zU ∧ Grew w w' := by
  have hn := hb.lenEq.1
  have hne : xs ≠ [] := by rintro rfl; simp at hn; omega
  obtain ⟨_, _, ea, _, hat⟩ := hb.shape
  simp only [Value.slice.injEq] at ea
  obtain ⟨rfl, hn', rfl⟩ := ea
  clear hn'
  obtain ⟨bk, off, rfl, hat2⟩ := hat hne
  have HBL := Lib.hid (hat2.lt hne)
  have HC6 : Hid (w.cell? ⟨bk, off + 6, none⟩ = some (.int .u8 (xs.getD 6 0))) := Lib.hid (hat2 6 (by omega))
  have HC7 : Hid (w.cell? ⟨bk, off + 7, none⟩ = some (.int .u8 (xs.getD 7 0))) := Lib.hid (hat2 7 (by omega))
  have hm0 := getG_lt (hb.ok.cut 4 6) true (n := 2) (cutL_length (by omega) (by omega)) (by omega)
  rw [show (2 : Int) ^ (8 * 2) = 65536 by decide] at hm0
  have hM : getV (cutL xs 4 6) true = ((nU xs : Nat) : Int) := by unfold nU; omega
  have HMB := Lib.hid (show nU xs ≤ 65535 by unfold nU; omega)
  obtain ⟨a4, c4, H4, x1, r4, x3, x4⟩ := hb.run_cut (lo := 4) (hi := 6) (by omega) (by omega)
  have r4 : ∀ w', (Instr.sliceAt 22 (.slice (some ⟨bk, off, none⟩) n c) (some (.int .i64 4)) (some (.int .i64 6)) none).run Tryd.prog w' = .ok (.slice a4 2 c4) w' := r4 .i64 .i64
  have HG4 := Lib.hid (fun w' (g : Grew w w') => refGetB_c (by rw [cutL_length (by omega) (by omega)]; omega) (H4.grew g))
  rw [hM] at HG4
  have ew4 : IntKind.i64.wrap ((nU xs : Nat) : Int) = ((nU xs : Nat) : Int) := IntWalk.i64_in _ (by have := HMB.out; omega)
  clear x1 x3 x4 hat hat2 hne hm0 hM H4
  have k1 : ¬ (((nU xs : Nat) : Int) < 8) := by omega
  have k2 : ¬ (((n : Nat) : Int) < ((nU xs : Nat) : Int)) := by omega
  have k6 : (6 : Int) < (n : Nat) := by omega
  have k7 : (7 : Int) < (n : Nat) := by omega
  have HB := Lib.hid hb
  obtain ⟨a9, c9, H9, x1, x2, x3, x4⟩ := HB.out.run_cut (lo := 0) (hi := (nU xs)) (by omega) (by omega)
  have HR9 : Hid (∀ w', (Instr.sliceAt 22 (.slice (some ⟨bk, off, none⟩) n c) none (some (.int .i64 ((nU xs : Nat) : Int))) none).run Tryd.prog w' = .ok (.slice a9 (nU xs) c9) w') := Lib.hid (x3 rfl .i64)
  replace H9 : Hid (Buf w (.slice a9 (nU xs) c9) (cutL xs 0 (nU xs))) := Lib.hid H9
  clear x1 x2 x3 x4
  have HSM := Lib.hid (show decide (sumV (psU src dst (nU xs) ++ cutL xs 0 (nU xs)) = 0) = false from decide_eq_false hsm)
  have HL9 := Lib.hid (show (psU src dst (nU xs)).length + (cutL xs 0 (nU xs)).length ≤ 140737488355328 by rw [psU_len, cutL_length (by omega) (by omega)]; have := HMB.out; omega)
  have HO9 := Lib.hid ((psU_ok src dst (nU xs)).append (HB.out.ok.cut 0 (nU xs)))
  clear hsm
  have H6 := Lib.hid h6
  clear hb hn h1 h2 h6 
  generalize nU xs = N at *
  generalize xs.getD 6 0 = y6 at *
  generalize xs.getD 7 0 = y7 at *
  go_enter Tryd.func10, Tryd.ntmps10
  go_upto_region 1 with fail
  have hR : Blk (w.alloc (.cells #[.int .i64 0, .int .i64 0, .slice none 0 0] 24)) w.heap.size #[.int .i64 0, .int .i64 0, .slice none 0 0] 24 := Blk.new _ _ _ _ rfl
  have G : Grew w (w.alloc (.cells #[.int .i64 0, .int .i64 0, .slice none 0 0] 24)) := (Grew.refl _).alloc _
  generalize (w.alloc (.cells #[.int .i64 0, .int .i64 0, .slice none 0 0] 24)) = w0 at *
  generalize hlR : w.heap.size = R at *
  have hwR : w.heap.size ≤ R := Nat.le_of_eq hlR
  go_wp2_with fail
  refine (HG4.out _ G).mono ?_
  rintro e w1 ⟨rfl, g1⟩
  have G1 := G.trans g1
  have hR1 := hR.grew g1
  go_upto_region 8 with fail
  clear ew4 r4
  have hst := (Grew.refl w1).drew1
  refine wp_region_held_drew (S := fun w' => Grew w1 w') (by kernel_rfl) (by exact hst) (fun hHeld => ?_)
  replace hHeld : Grew w1 w1.drew := hHeld
  generalize w1.drew = wq17 at *
  refine wpAnyH_take (i := 0) (v := ?_) rfl (by kernel_rfl) (by kernel_rfl) (by kernel_rfl) (fun _ _ _ h => h) (Or.inl ⟨by rfl, ?_⟩) hHeld ?_
  rotate_left
  · intro wq hSw
    replace hSw : Grew w1 wq := hSw
    go_simp
    try with_reducible rfl
  try simp only [List.getElem_toArray, List.getElem_cons_succ, List.getElem_cons_zero, Act.put, List.setIfInBounds_toArray, List.set_cons_zero, List.set_cons_succ]
  refine wpAnyH_take (i := 1) (v := ?_) rfl (by kernel_rfl) (by kernel_rfl) (by kernel_rfl) (fun _ _ _ h => h) (Or.inl ⟨by rfl, ?_⟩) hHeld ?_
  rotate_left
  · intro wq hSw
    replace hSw : Grew w1 wq := hSw
    have k6' := k6
    go_simp
    try with_reducible rfl
  try simp only [List.getElem_toArray, List.getElem_cons_succ, List.getElem_cons_zero, Act.put, List.setIfInBounds_toArray, List.set_cons_zero, List.set_cons_succ]
  refine wpAnyH_take (i := 2) (v := ?_) rfl (by kernel_rfl) (by kernel_rfl) (by kernel_rfl) (fun _ _ _ h => h) (Or.inl ⟨by rfl, ?_⟩) hHeld ?_
  rotate_left
  · intro wq hSw
    replace hSw : Grew w1 wq := hSw
    have z6 : wq.cell? ⟨bk, off + 6, none⟩ = some (.int .u8 y6) := by rw [(gcell (G1.trans hSw)).1 bk _ (by rw [hlR]; exact HBL.out)]; exact HC6.out
    go_simp
    try with_reducible rfl
  try simp only [List.getElem_toArray, List.getElem_cons_succ, List.getElem_cons_zero, Act.put, List.setIfInBounds_toArray, List.set_cons_zero, List.set_cons_succ]
  refine wpAnyH_take (i := 3) (v := ?_) rfl (by kernel_rfl) (by kernel_rfl) (by kernel_rfl) (fun _ _ _ h => h) (Or.inl ⟨by rfl, ?_⟩) hHeld ?_
  rotate_left
  · intro wq hSw
    replace hSw : Grew w1 wq := hSw
    have h6 := H6.out
    go_simp
    try with_reducible rfl
  try simp only [List.getElem_toArray, List.getElem_cons_succ, List.getElem_cons_zero, Act.put, List.setIfInBounds_toArray, List.set_cons_zero, List.set_cons_succ]
  refine wpAnyH_take (i := 4) (v := ?_) rfl (by kernel_rfl) (by kernel_rfl) (by kernel_rfl) (fun _ _ _ h => h) (Or.inl ⟨by rfl, ?_⟩) hHeld ?_
  rotate_left
  · intro wq hSw
    replace hSw : Grew w1 wq := hSw
    go_simp
    try with_reducible rfl
  try simp only [List.getElem_toArray, List.getElem_cons_succ, List.getElem_cons_zero, Act.put, List.setIfInBounds_toArray, List.set_cons_zero, List.set_cons_succ]
  refine wpAnyH_take (i := 5) (v := undef) rfl (by kernel_rfl) (by kernel_rfl) (by kernel_rfl) (fun _ _ _ h => h) (Or.inr ⟨by rfl, rfl⟩) hHeld ?_
  try simp only [List.getElem_toArray, List.getElem_cons_succ, List.getElem_cons_zero, Act.put, List.setIfInBounds_toArray, List.set_cons_zero, List.set_cons_succ]
  refine wpAnyH_take (i := 6) (v := undef) rfl (by kernel_rfl) (by kernel_rfl) (by kernel_rfl) (fun _ _ _ h => h) (Or.inr ⟨by rfl, rfl⟩) hHeld ?_
  try simp only [List.getElem_toArray, List.getElem_cons_succ, List.getElem_cons_zero, Act.put, List.setIfInBounds_toArray, List.set_cons_zero, List.set_cons_succ]
  refine wpAnyH_take (i := 7) (v := undef) rfl (by kernel_rfl) (by kernel_rfl) (by kernel_rfl) (fun _ _ _ h => h) (Or.inr ⟨by rfl, rfl⟩) hHeld ?_
  try simp only [List.getElem_toArray, List.getElem_cons_succ, List.getElem_cons_zero, Act.put, List.setIfInBounds_toArray, List.set_cons_zero, List.set_cons_succ]
  refine wpAnyH_take (i := 8) (v := undef) rfl (by kernel_rfl) (by kernel_rfl) (by kernel_rfl) (fun _ _ _ h => h) (Or.inr ⟨by rfl, rfl⟩) hHeld ?_
  try simp only [List.getElem_toArray, List.getElem_cons_succ, List.getElem_cons_zero, Act.put, List.setIfInBounds_toArray, List.set_cons_zero, List.set_cons_succ]
  refine wpAnyH_take (i := 9) (v := ?_) rfl (by kernel_rfl) (by kernel_rfl) (by kernel_rfl) (fun _ _ _ h => h) (Or.inl ⟨by rfl, ?_⟩) hHeld ?_
  rotate_left
  · intro wq hSw
    replace hSw : Grew w1 wq := hSw
    go_simp
    try with_reducible rfl
  try simp only [List.getElem_toArray, List.getElem_cons_succ, List.getElem_cons_zero, Act.put, List.setIfInBounds_toArray, List.set_cons_zero, List.set_cons_succ]
  refine wpAnyH_take (i := 10) (v := ?_) rfl (by kernel_rfl) (by kernel_rfl) (by kernel_rfl) (fun _ _ _ h => h) (Or.inl ⟨by rfl, ?_⟩) hHeld ?_
  rotate_left
  · intro wq hSw
    replace hSw : Grew w1 wq := hSw
    go_simp
    try with_reducible rfl
  try simp only [List.getElem_toArray, List.getElem_cons_succ, List.getElem_cons_zero, Act.put, List.setIfInBounds_toArray, List.set_cons_zero, List.set_cons_succ]
  refine wpAnyH_take (i := 11) (v := ?_) rfl (by kernel_rfl) (by kernel_rfl) (by kernel_rfl) (fun _ _ _ h => h) (Or.inl ⟨by rfl, ?_⟩) hHeld ?_
  rotate_left
  · intro wq hSw
    replace hSw : Grew w1 wq := hSw
    go_simp
    try with_reducible rfl
  try simp only [List.getElem_toArray, List.getElem_cons_succ, List.getElem_cons_zero, Act.put, List.setIfInBounds_toArray, List.set_cons_zero, List.set_cons_succ]
  refine wpAnyH_take (i := 12) (v := ?_) rfl (by kernel_rfl) (by kernel_rfl) (by kernel_rfl) (fun _ _ _ h => h) (Or.inl ⟨by rfl, ?_⟩) hHeld ?_
  rotate_left
  · intro wq hSw
    replace hSw : Grew w1 wq := hSw
    go_simp
    try with_reducible rfl
  try simp only [List.getElem_toArray, List.getElem_cons_succ, List.getElem_cons_zero, Act.put, List.setIfInBounds_toArray, List.set_cons_zero, List.set_cons_succ]
  refine wpAnyH_take (i := 13) (v := ?_) rfl (by kernel_rfl) (by kernel_rfl) (by kernel_rfl) (fun _ _ _ h => h) (Or.inl ⟨by rfl, ?_⟩) hHeld ?_
  rotate_left
  · intro wq hSw
    replace hSw : Grew w1 wq := hSw
    go_simp
    try with_reducible rfl
  try simp only [List.getElem_toArray, List.getElem_cons_succ, List.getElem_cons_zero, Act.put, List.setIfInBounds_toArray, List.set_cons_zero, List.set_cons_succ]
  refine wpAnyH_take (i := 15) (v := ?_) rfl (by kernel_rfl) (by kernel_rfl) (by kernel_rfl) (fun _ _ _ h => h) (Or.inl ⟨by rfl, ?_⟩) hHeld ?_
  rotate_left
  · intro wq hSw
    replace hSw : Grew w1 wq := hSw
    go_simp
    try with_reducible rfl
  try simp only [List.getElem_toArray, List.getElem_cons_succ, List.getElem_cons_zero, Act.put, List.setIfInBounds_toArray, List.set_cons_zero, List.set_cons_succ]
  refine wpAnyH_take (i := 16) (v := ?_) rfl (by kernel_rfl) (by kernel_rfl) (by kernel_rfl) (fun _ _ _ h => h) (Or.inl ⟨by rfl, ?_⟩) hHeld ?_
  rotate_left
  · intro wq hSw
    replace hSw : Grew w1 wq := hSw
    go_simp
    try with_reducible rfl
  try simp only [List.getElem_toArray, List.getElem_cons_succ, List.getElem_cons_zero, Act.put, List.setIfInBounds_toArray, List.set_cons_zero, List.set_cons_succ]
  refine wpAnyH_take (i := 17) (v := ?_) rfl (by kernel_rfl) (by kernel_rfl) (by kernel_rfl) (fun _ _ _ h => h) (Or.inl ⟨by rfl, ?_⟩) hHeld ?_
  rotate_left
  · intro wq hSw
    replace hSw : Grew w1 wq := hSw
    have r := HR9.out
    go_simp
    try with_reducible rfl
  try simp only [List.getElem_toArray, List.getElem_cons_succ, List.getElem_cons_zero, Act.put, List.setIfInBounds_toArray, List.set_cons_zero, List.set_cons_succ]
  refine wpAnyH_ready (rs := [14]) (by kernel_rfl) (by simp) ?_
  refine AllReadyH.cons rfl (fun K hK => ?_) AllReadyH.nil
  go_simp
  refine (refPseudo_c src dst 17 (N : Nat) hsr hdr (by omega) (by have := HMB.out; omega) wq17).mono ?_
  rintro e wk18 ⟨u1, rfl, R1, b1, gk18⟩
  replace R1 := Lib.hid (R1.low hHeld.size)
  clear b1
  refine hK.out _ _ (hHeld.trans gk18) (fun hHeld => ?_)
  clear hK K
  try simp only [List.getElem_toArray, List.getElem_cons_succ, List.getElem_cons_zero, Act.put, List.setIfInBounds_toArray, List.set_cons_zero, List.set_cons_succ]
  refine wpAnyH_ready (rs := [18]) (by kernel_rfl) (by simp) ?_
  refine AllReadyH.cons rfl (fun K hK => ?_) AllReadyH.nil
  refine step_append_off (by rfl) (.tmp 39) (.tmp 42) rfl hHeld R1.out (H9.out.grew (G1.trans hHeld)) (by rfl) (by rfl) HL9.out ?_
  intro v18 wk19 R2 gk19 KO gb
  clear KO gb
  refine hK.out _ _ (gk19) (fun hHeld => ?_)
  clear hK K
  try simp only [List.getElem_toArray, List.getElem_cons_succ, List.getElem_cons_zero, Act.put, List.setIfInBounds_toArray, List.set_cons_zero, List.set_cons_succ]
  refine wpAnyH_ready (rs := [19]) (by kernel_rfl) (by simp) ?_
  refine AllReadyH.cons rfl (fun K hK => ?_) AllReadyH.nil
  go_simp
  refine (refRight_c wk19 (R2.out.buf HO9.out) (by rw [List.length_append]; exact HL9.out)).mono ?_
  rintro e wk20 ⟨rfl, gk20⟩
  rw [show decide (sumV (pseudoV src dst 17 ((N : Nat) : Int) ++ cutL xs 0 N) = 0) = false from HSM.out]
  refine hK.out _ _ (hHeld.trans gk20) (fun hHeld => ?_)
  clear hK K
  try simp only [List.getElem_toArray, List.getElem_cons_succ, List.getElem_cons_zero, Act.put, List.setIfInBounds_toArray, List.set_cons_zero, List.set_cons_succ]
  refine wpAnyH_take (i := 20) (v := ?_) rfl (by kernel_rfl) (by kernel_rfl) (by kernel_rfl) (fun _ _ _ h => h) (Or.inl ⟨by rfl, ?_⟩) hHeld ?_
  rotate_left
  · intro wq hSw
    replace hSw : Grew w1 wq := hSw
    go_simp
    try with_reducible rfl
  try simp only [List.getElem_toArray, List.getElem_cons_succ, List.getElem_cons_zero, Act.put, List.setIfInBounds_toArray, List.set_cons_zero, List.set_cons_succ]
  refine wpAnyH_take (i := 21) (v := ?_) rfl (by kernel_rfl) (by kernel_rfl) (by kernel_rfl) (fun _ _ _ h => h) (Or.inl ⟨by rfl, ?_⟩) hHeld ?_
  rotate_left
  · intro wq hSw
    replace hSw : Grew w1 wq := hSw
    go_simp
    try with_reducible rfl
  try simp only [List.getElem_toArray, List.getElem_cons_succ, List.getElem_cons_zero, Act.put, List.setIfInBounds_toArray, List.set_cons_zero, List.set_cons_succ]
  refine wpAnyH_done (by kernel_rfl) ?_ _
  try simp only [List.getElem_toArray, List.getElem_cons_succ, List.getElem_cons_zero, Act.put, List.setIfInBounds_toArray, List.set_cons_zero, List.set_cons_succ]
  have G2 := G1.trans hHeld
  have hR2 := hR1.grew hHeld
  clear hHeld hR1 hR G g1
  have y0 := hR2.cell 0
  have y1 := hR2.cell 1
  have y2 := hR2.cell 2
  have f0 := hR2.free 0
  have f1 := hR2.free 1
  have f2 := hR2.free 2
  go_wp2_with fail
  have E := (((hR2.set (o := 0) (.int .i64 0)).set (o := 1) (.int .i64 0)).set (o := 2) (.slice none 0 0))
  have GE := (((G2.setCell (b := R) (o := 0) (by omega) (.int .i64 0)).setCell (b := R) (o := 1) (by omega) (.int .i64 0)).setCell (b := R) (o := 2) (by omega) (.slice none 0 0))
  have z0 := E.cell 0
  have z1 := E.cell 1
  have z2 := E.cell 2
  exact bodyPost_ret (v := .tuple #[.agg #[.int .i64 0, .int .i64 0, .slice none 0 0], .int .i64 162]) (by simp [results, Tryd.results10, go_sem, z0, z1, z2]) rfl ⟨_, rfl, Ud.zero _, GE⟩
set_option maxHeartbeats 8000000 in
theorem refGetU_by (a : Option Addr) (n c : Nat) (xs : List Int) (src dst : Int) (hsr : 0 ≤ src ∧ src < 4294967296) (hdr : 0 ≤ dst ∧ dst < 4294967296) (hs : ¬ ((n : Int) < 8)) {w : World} (hb : Buf w (.slice a n c) xs) (h1 : ¬ nU xs < 8) (h2 : ¬ xs.length < nU xs) (h6 : (xs.getD 6 0 != 0) = false) (h7 : (xs.getD 7 0 != 0) = true) (hsm : sumV (psU src dst (nU xs) ++ cutL xs 0 (nU xs)) = 0) :
    Calls Tryd.prog 10 #[.slice a n c, .int .u32 src, .int .u32 dst] w fun e w' => ∃ u, e = .returned (.tuple #[u, .int .i64 0]) ∧ Ud w' u (udOf xs) ∧ Grew w w' := by
  have hn := hb.lenEq.1
  have hne : xs ≠ [] := by rintro rfl; simp at hn; omega
  obtain ⟨_, _, ea, _, hat⟩ := hb.shape
  simp only [Value.slice.injEq] at ea
  obtain ⟨rfl, hn', rfl⟩ := ea
  clear hn'
  obtain ⟨bk, off, rfl, hat2⟩ := hat hne
  have HBL := Lib.hid (hat2.lt hne)
  have HC6 : Hid (w.cell? ⟨bk, off + 6, none⟩ = some (.int .u8 (xs.getD 6 0))) := Lib.hid (hat2 6 (by omega))
  have HC7 : Hid (w.cell? ⟨bk, off + 7, none⟩ = some (.int .u8 (xs.getD 7 0))) := Lib.hid (hat2 7 (by omega))
  have hm0 := getG_lt (hb.ok.cut 4 6) true (n := 2) (cutL_length (by omega) (by omega)) (by omega)
  rw [show (2 : Int) ^ (8 * 2) = 65536 by decide] at hm0
  have hM : getV (cutL xs 4 6) true = ((nU xs : Nat) : Int) := by unfold nU; omega
  have HMB := Lib.hid (show nU xs ≤ 65535 by unfold nU; omega)
  obtain ⟨a4, c4, H4, x1, r4, x3, x4⟩ := hb.run_cut (lo := 4) (hi := 6) (by omega) (by omega)
  have r4 : ∀ w', (Instr.sliceAt 22 (.slice (some ⟨bk, off, none⟩) n c) (some (.int .i64 4)) (some (.int .i64 6)) none).run Tryd.prog w' = .ok (.slice a4 2 c4) w' := r4 .i64 .i64
  have HG4 := Lib.hid (fun w' (g : Grew w w') => refGetB_c (by rw [cutL_length (by omega) (by omega)]; omega) (H4.grew g))
  rw [hM] at HG4
  have ew4 : IntKind.i64.wrap ((nU xs : Nat) : Int) = ((nU xs : Nat) : Int) := IntWalk.i64_in _ (by have := HMB.out; omega)
  clear x1 x3 x4 hat hat2 hne hm0 hM H4
  have k1 : ¬ (((nU xs : Nat) : Int) < 8) := by omega
  have k2 : ¬ (((n : Nat) : Int) < ((nU xs : Nat) : Int)) := by omega
  have k6 : (6 : Int) < (n : Nat) := by omega
  have k7 : (7 : Int) < (n : Nat) := by omega
  have HB := Lib.hid hb
  obtain ⟨a9, c9, H9, x1, x2, x3, x4⟩ := HB.out.run_cut (lo := 0) (hi := (nU xs)) (by omega) (by omega)
  have HR9 : Hid (∀ w', (Instr.sliceAt 22 (.slice (some ⟨bk, off, none⟩) n c) none (some (.int .i64 ((nU xs : Nat) : Int))) none).run Tryd.prog w' = .ok (.slice a9 (nU xs) c9) w') := Lib.hid (x3 rfl .i64)
  replace H9 : Hid (Buf w (.slice a9 (nU xs) c9) (cutL xs 0 (nU xs))) := Lib.hid H9
  clear x1 x2 x3 x4
  have HSM := Lib.hid (show decide (sumV (psU src dst (nU xs) ++ cutL xs 0 (nU xs)) = 0) = true from decide_eq_true hsm)
  have HL9 := Lib.hid (show (psU src dst (nU xs)).length + (cutL xs 0 (nU xs)).length ≤ 140737488355328 by rw [psU_len, cutL_length (by omega) (by omega)]; have := HMB.out; omega)
  have HO9 := Lib.hid ((psU_ok src dst (nU xs)).append (HB.out.ok.cut 0 (nU xs)))
  clear hsm
  obtain ⟨a0, c0, H0, x1, x2, x3, x4⟩ := HB.out.run_cut (lo := 0) (hi := 2) (by omega) (by omega)
  have HR0 : Hid (∀ w', (Instr.sliceAt 22 (.slice (some ⟨bk, off, none⟩) n c) none (some (.int .i64 2)) none).run Tryd.prog w' = .ok (.slice a0 2 c0) w') := Lib.hid (x3 rfl .i64)
  replace H0 : Hid (Buf w (.slice a0 2 c0) (cutL xs 0 2)) := Lib.hid H0
  clear x1 x2 x3 x4
  obtain ⟨a2, c2, H2, x1, x2, x3, x4⟩ := HB.out.run_cut (lo := 2) (hi := 4) (by omega) (by omega)
  have HR2 : Hid (∀ w', (Instr.sliceAt 22 (.slice (some ⟨bk, off, none⟩) n c) (some (.int .i64 2)) (some (.int .i64 4)) none).run Tryd.prog w' = .ok (.slice a2 2 c2) w') := Lib.hid (x2 .i64 .i64)
  replace H2 : Hid (Buf w (.slice a2 2 c2) (cutL xs 2 4)) := Lib.hid H2
  clear x1 x2 x3 x4
  obtain ⟨a8, c8, H8, x1, x2, x3, x4⟩ := HB.out.run_cut (lo := 8) (hi := (nU xs)) (by omega) (by omega)
  have HR8 : Hid (∀ w', (Instr.sliceAt 22 (.slice (some ⟨bk, off, none⟩) n c) (some (.int .i64 8)) (some (.int .i64 ((nU xs : Nat) : Int))) none).run Tryd.prog w' = .ok (.slice a8 ((nU xs) - 8) c8) w') := Lib.hid (x2 .i64 .i64)
  replace H8 : Hid (Buf w (.slice a8 ((nU xs) - 8) c8) (cutL xs 8 (nU xs))) := Lib.hid H8
  clear x1 x2 x3 x4
  have HG0 := Lib.hid (fun w' (g : Grew w w') => refGetB_c (by rw [cutL_length (by omega) (by omega)]; omega) (H0.out.grew g))
  have hg0 := getG_lt (HB.out.ok.cut 0 2) true (n := 2) (cutL_length (by omega) (by omega)) (by omega)
  rw [show (2 : Int) ^ (8 * 2) = 65536 by decide] at hg0
  have HG2 := Lib.hid (fun w' (g : Grew w w') => refGetB_c (by rw [cutL_length (by omega) (by omega)]; omega) (H2.out.grew g))
  have hg2 := getG_lt (HB.out.ok.cut 2 4) true (n := 2) (cutL_length (by omega) (by omega)) (by omega)
  rw [show (2 : Int) ^ (8 * 2) = 65536 by decide] at hg2
  have HF : Hid (udOf xs = ⟨getV (cutL xs 0 2) true, getV (cutL xs 2 4) true, cutL xs 8 (nU xs)⟩) := Lib.hid rfl
  have HL8 := Lib.hid (show ([] : List Int).length + (cutL xs 8 (nU xs)).length ≤ 140737488355328 by rw [cutL_length (by omega) (by omega)]; have := HMB.out; simp; omega)
  have HO8 := Lib.hid (HB.out.ok.cut 8 (nU xs))
  generalize getV (cutL xs 0 2) true = g0 at *
  generalize getV (cutL xs 2 4) true = g2 at *
  have Ew0 := Lib.hid (show IntKind.i64.wrap g0 = g0 from IntWalk.i64_in _ (by omega))
  have Ew2 := Lib.hid (show IntKind.i64.wrap g2 = g2 from IntWalk.i64_in _ (by omega))
  have HI := Lib.hid (show intI g0 ∧ intI g2 by unfold intI; omega)
  clear hg0 hg2
  have H6 := Lib.hid h6
  have H7 := Lib.hid h7
  clear hb hn h1 h2 h6 h7
  generalize nU xs = N at *
  generalize xs.getD 6 0 = y6 at *
  generalize xs.getD 7 0 = y7 at *
  go_enter Tryd.func10, Tryd.ntmps10
  go_upto_region 1 with fail
  have hR : Blk (w.alloc (.cells #[.int .i64 0, .int .i64 0, .slice none 0 0] 24)) w.heap.size #[.int .i64 0, .int .i64 0, .slice none 0 0] 24 := Blk.new _ _ _ _ rfl
  have G : Grew w (w.alloc (.cells #[.int .i64 0, .int .i64 0, .slice none 0 0] 24)) := (Grew.refl _).alloc _
  generalize (w.alloc (.cells #[.int .i64 0, .int .i64 0, .slice none 0 0] 24)) = w0 at *
  generalize hlR : w.heap.size = R at *
  have hwR : w.heap.size ≤ R := Nat.le_of_eq hlR
  go_wp2_with fail
  refine (HG4.out _ G).mono ?_
  rintro e w1 ⟨rfl, g1⟩
  have G1 := G.trans g1
  have hR1 := hR.grew g1
  go_upto_region 8 with fail
  clear ew4 r4
  have hst := (Grew.refl w1).drew1
  refine wp_region_held_drew (S := fun w' => Grew w1 w') (by kernel_rfl) (by exact hst) (fun hHeld => ?_)
  replace hHeld : Grew w1 w1.drew := hHeld
  generalize w1.drew = wq21 at *
  refine wpAnyH_take (i := 0) (v := ?_) rfl (by kernel_rfl) (by kernel_rfl) (by kernel_rfl) (fun _ _ _ h => h) (Or.inl ⟨by rfl, ?_⟩) hHeld ?_
  rotate_left
  · intro wq hSw
    replace hSw : Grew w1 wq := hSw
    go_simp
    try with_reducible rfl
  try simp only [List.getElem_toArray, List.getElem_cons_succ, List.getElem_cons_zero, Act.put, List.setIfInBounds_toArray, List.set_cons_zero, List.set_cons_succ]
  refine wpAnyH_take (i := 1) (v := ?_) rfl (by kernel_rfl) (by kernel_rfl) (by kernel_rfl) (fun _ _ _ h => h) (Or.inl ⟨by rfl, ?_⟩) hHeld ?_
  rotate_left
  · intro wq hSw
    replace hSw : Grew w1 wq := hSw
    have k6' := k6
    go_simp
    try with_reducible rfl
  try simp only [List.getElem_toArray, List.getElem_cons_succ, List.getElem_cons_zero, Act.put, List.setIfInBounds_toArray, List.set_cons_zero, List.set_cons_succ]
  refine wpAnyH_take (i := 2) (v := ?_) rfl (by kernel_rfl) (by kernel_rfl) (by kernel_rfl) (fun _ _ _ h => h) (Or.inl ⟨by rfl, ?_⟩) hHeld ?_
  rotate_left
  · intro wq hSw
    replace hSw : Grew w1 wq := hSw
    have z6 : wq.cell? ⟨bk, off + 6, none⟩ = some (.int .u8 y6) := by rw [(gcell (G1.trans hSw)).1 bk _ (by rw [hlR]; exact HBL.out)]; exact HC6.out
    go_simp
    try with_reducible rfl
  try simp only [List.getElem_toArray, List.getElem_cons_succ, List.getElem_cons_zero, Act.put, List.setIfInBounds_toArray, List.set_cons_zero, List.set_cons_succ]
  refine wpAnyH_take (i := 3) (v := ?_) rfl (by kernel_rfl) (by kernel_rfl) (by kernel_rfl) (fun _ _ _ h => h) (Or.inl ⟨by rfl, ?_⟩) hHeld ?_
  rotate_left
  · intro wq hSw
    replace hSw : Grew w1 wq := hSw
    have h6 := H6.out
    go_simp
    try with_reducible rfl
  try simp only [List.getElem_toArray, List.getElem_cons_succ, List.getElem_cons_zero, Act.put, List.setIfInBounds_toArray, List.set_cons_zero, List.set_cons_succ]
  refine wpAnyH_take (i := 4) (v := ?_) rfl (by kernel_rfl) (by kernel_rfl) (by kernel_rfl) (fun _ _ _ h => h) (Or.inl ⟨by rfl, ?_⟩) hHeld ?_
  rotate_left
  · intro wq hSw
    replace hSw : Grew w1 wq := hSw
    go_simp
    try with_reducible rfl
  try simp only [List.getElem_toArray, List.getElem_cons_succ, List.getElem_cons_zero, Act.put, List.setIfInBounds_toArray, List.set_cons_zero, List.set_cons_succ]
  refine wpAnyH_take (i := 5) (v := ?_) rfl (by kernel_rfl) (by kernel_rfl) (by kernel_rfl) (fun _ _ _ h => h) (Or.inl ⟨by rfl, ?_⟩) hHeld ?_
  rotate_left
  · intro wq hSw
    replace hSw : Grew w1 wq := hSw
    go_simp
    try with_reducible rfl
  try simp only [List.getElem_toArray, List.getElem_cons_succ, List.getElem_cons_zero, Act.put, List.setIfInBounds_toArray, List.set_cons_zero, List.set_cons_succ]
  refine wpAnyH_take (i := 6) (v := ?_) rfl (by kernel_rfl) (by kernel_rfl) (by kernel_rfl) (fun _ _ _ h => h) (Or.inl ⟨by rfl, ?_⟩) hHeld ?_
  rotate_left
  · intro wq hSw
    replace hSw : Grew w1 wq := hSw
    go_simp
    try with_reducible rfl
  try simp only [List.getElem_toArray, List.getElem_cons_succ, List.getElem_cons_zero, Act.put, List.setIfInBounds_toArray, List.set_cons_zero, List.set_cons_succ]
  refine wpAnyH_take (i := 7) (v := ?_) rfl (by kernel_rfl) (by kernel_rfl) (by kernel_rfl) (fun _ _ _ h => h) (Or.inl ⟨by rfl, ?_⟩) hHeld ?_
  rotate_left
  · intro wq hSw
    replace hSw : Grew w1 wq := hSw
    have z7 : wq.cell? ⟨bk, off + 7, none⟩ = some (.int .u8 y7) := by rw [(gcell (G1.trans hSw)).1 bk _ (by rw [hlR]; exact HBL.out)]; exact HC7.out
    go_simp
    try with_reducible rfl
  try simp only [List.getElem_toArray, List.getElem_cons_succ, List.getElem_cons_zero, Act.put, List.setIfInBounds_toArray, List.set_cons_zero, List.set_cons_succ]
  refine wpAnyH_take (i := 8) (v := ?_) rfl (by kernel_rfl) (by kernel_rfl) (by kernel_rfl) (fun _ _ _ h => h) (Or.inl ⟨by rfl, ?_⟩) hHeld ?_
  rotate_left
  · intro wq hSw
    replace hSw : Grew w1 wq := hSw
    have h7 := H7.out
    go_simp
    try with_reducible rfl
  try simp only [List.getElem_toArray, List.getElem_cons_succ, List.getElem_cons_zero, Act.put, List.setIfInBounds_toArray, List.set_cons_zero, List.set_cons_succ]
  refine wpAnyH_take (i := 9) (v := ?_) rfl (by kernel_rfl) (by kernel_rfl) (by kernel_rfl) (fun _ _ _ h => h) (Or.inl ⟨by rfl, ?_⟩) hHeld ?_
  rotate_left
  · intro wq hSw
    replace hSw : Grew w1 wq := hSw
    go_simp
    try with_reducible rfl
  try simp only [List.getElem_toArray, List.getElem_cons_succ, List.getElem_cons_zero, Act.put, List.setIfInBounds_toArray, List.set_cons_zero, List.set_cons_succ]
  refine wpAnyH_take (i := 10) (v := ?_) rfl (by kernel_rfl) (by kernel_rfl) (by kernel_rfl) (fun _ _ _ h => h) (Or.inl ⟨by rfl, ?_⟩) hHeld ?_
  rotate_left
  · intro wq hSw
    replace hSw : Grew w1 wq := hSw
    go_simp
    try with_reducible rfl
  try simp only [List.getElem_toArray, List.getElem_cons_succ, List.getElem_cons_zero, Act.put, List.setIfInBounds_toArray, List.set_cons_zero, List.set_cons_succ]
  refine wpAnyH_take (i := 11) (v := ?_) rfl (by kernel_rfl) (by kernel_rfl) (by kernel_rfl) (fun _ _ _ h => h) (Or.inl ⟨by rfl, ?_⟩) hHeld ?_
  rotate_left
  · intro wq hSw
    replace hSw : Grew w1 wq := hSw
    go_simp
    try with_reducible rfl
  try simp only [List.getElem_toArray, List.getElem_cons_succ, List.getElem_cons_zero, Act.put, List.setIfInBounds_toArray, List.set_cons_zero, List.set_cons_succ]
  refine wpAnyH_take (i := 12) (v := ?_) rfl (by kernel_rfl) (by kernel_rfl) (by kernel_rfl) (fun _ _ _ h => h) (Or.inl ⟨by rfl, ?_⟩) hHeld ?_
  rotate_left
  · intro wq hSw
    replace hSw : Grew w1 wq := hSw
    go_simp
    try with_reducible rfl
  try simp only [List.getElem_toArray, List.getElem_cons_succ, List.getElem_cons_zero, Act.put, List.setIfInBounds_toArray, List.set_cons_zero, List.set_cons_succ]
  refine wpAnyH_take (i := 13) (v := ?_) rfl (by kernel_rfl) (by kernel_rfl) (by kernel_rfl) (fun _ _ _ h => h) (Or.inl ⟨by rfl, ?_⟩) hHeld ?_
  rotate_left
  · intro wq hSw
    replace hSw : Grew w1 wq := hSw
    go_simp
    try with_reducible rfl
  try simp only [List.getElem_toArray, List.getElem_cons_succ, List.getElem_cons_zero, Act.put, List.setIfInBounds_toArray, List.set_cons_zero, List.set_cons_succ]
  refine wpAnyH_take (i := 15) (v := ?_) rfl (by kernel_rfl) (by kernel_rfl) (by kernel_rfl) (fun _ _ _ h => h) (Or.inl ⟨by rfl, ?_⟩) hHeld ?_
  rotate_left
  · intro wq hSw
    replace hSw : Grew w1 wq := hSw
    go_simp
    try with_reducible rfl
  try simp only [List.getElem_toArray, List.getElem_cons_succ, List.getElem_cons_zero, Act.put, List.setIfInBounds_toArray, List.set_cons_zero, List.set_cons_succ]
  refine wpAnyH_take (i := 16) (v := ?_) rfl (by kernel_rfl) (by kernel_rfl) (by kernel_rfl) (fun _ _ _ h => h) (Or.inl ⟨by rfl, ?_⟩) hHeld ?_
  rotate_left
  · intro wq hSw
    replace hSw : Grew w1 wq := hSw
    go_simp
    try with_reducible rfl
  try simp only [List.getElem_toArray, List.getElem_cons_succ, List.getElem_cons_zero, Act.put, List.setIfInBounds_toArray, List.set_cons_zero, List.set_cons_succ]
  refine wpAnyH_take (i := 17) (v := ?_) rfl (by kernel_rfl) (by kernel_rfl) (by kernel_rfl) (fun _ _ _ h => h) (Or.inl ⟨by rfl, ?_⟩) hHeld ?_
  rotate_left
  · intro wq hSw
    replace hSw : Grew w1 wq := hSw
    have r := HR9.out
    go_simp
    try with_reducible rfl
  try simp only [List.getElem_toArray, List.getElem_cons_succ, List.getElem_cons_zero, Act.put, List.setIfInBounds_toArray, List.set_cons_zero, List.set_cons_succ]
  refine wpAnyH_ready (rs := [14]) (by kernel_rfl) (by simp) ?_
  refine AllReadyH.cons rfl (fun K hK => ?_) AllReadyH.nil
  go_simp
  refine (refPseudo_c src dst 17 (N : Nat) hsr hdr (by omega) (by have := HMB.out; omega) wq21).mono ?_
  rintro e wk22 ⟨u1, rfl, R1, b1, gk22⟩
  replace R1 := Lib.hid (R1.low hHeld.size)
  clear b1
  refine hK.out _ _ (hHeld.trans gk22) (fun hHeld => ?_)
  clear hK K
  try simp only [List.getElem_toArray, List.getElem_cons_succ, List.getElem_cons_zero, Act.put, List.setIfInBounds_toArray, List.set_cons_zero, List.set_cons_succ]
  refine wpAnyH_ready (rs := [18]) (by kernel_rfl) (by simp) ?_
  refine AllReadyH.cons rfl (fun K hK => ?_) AllReadyH.nil
  refine step_append_off (by rfl) (.tmp 39) (.tmp 42) rfl hHeld R1.out (H9.out.grew (G1.trans hHeld)) (by rfl) (by rfl) HL9.out ?_
  intro v18 wk23 R2 gk23 KO gb
  clear KO gb
  refine hK.out _ _ (gk23) (fun hHeld => ?_)
  clear hK K
  try simp only [List.getElem_toArray, List.getElem_cons_succ, List.getElem_cons_zero, Act.put, List.setIfInBounds_toArray, List.set_cons_zero, List.set_cons_succ]
  refine wpAnyH_ready (rs := [19]) (by kernel_rfl) (by simp) ?_
  refine AllReadyH.cons rfl (fun K hK => ?_) AllReadyH.nil
  go_simp
  refine (refRight_c wk23 (R2.out.buf HO9.out) (by rw [List.length_append]; exact HL9.out)).mono ?_
  rintro e wk24 ⟨rfl, gk24⟩
  rw [show decide (sumV (pseudoV src dst 17 ((N : Nat) : Int) ++ cutL xs 0 N) = 0) = true from HSM.out]
  refine hK.out _ _ (hHeld.trans gk24) (fun hHeld => ?_)
  clear hK K
  try simp only [List.getElem_toArray, List.getElem_cons_succ, List.getElem_cons_zero, Act.put, List.setIfInBounds_toArray, List.set_cons_zero, List.set_cons_succ]
  refine wpAnyH_take (i := 20) (v := ?_) rfl (by kernel_rfl) (by kernel_rfl) (by kernel_rfl) (fun _ _ _ h => h) (Or.inl ⟨by rfl, ?_⟩) hHeld ?_
  rotate_left
  · intro wq hSw
    replace hSw : Grew w1 wq := hSw
    go_simp
    try with_reducible rfl
  try simp only [List.getElem_toArray, List.getElem_cons_succ, List.getElem_cons_zero, Act.put, List.setIfInBounds_toArray, List.set_cons_zero, List.set_cons_succ]
  refine wpAnyH_take (i := 21) (v := ?_) rfl (by kernel_rfl) (by kernel_rfl) (by kernel_rfl) (fun _ _ _ h => h) (Or.inl ⟨by rfl, ?_⟩) hHeld ?_
  rotate_left
  · intro wq hSw
    replace hSw : Grew w1 wq := hSw
    go_simp
    try with_reducible rfl
  try simp only [List.getElem_toArray, List.getElem_cons_succ, List.getElem_cons_zero, Act.put, List.setIfInBounds_toArray, List.set_cons_zero, List.set_cons_succ]
  refine wpAnyH_done (by kernel_rfl) ?_ _
  try simp only [List.getElem_toArray, List.getElem_cons_succ, List.getElem_cons_zero, Act.put, List.setIfInBounds_toArray, List.set_cons_zero, List.set_cons_succ]
  have G2 := G1.trans hHeld
  have hR2 := hR1.grew hHeld
  clear hHeld hR1 hR G g1
  have HRR := Lib.hid hR2
  clear hR2
  go_upto_region 10 with fail
  replace HRR := Lib.hid (HRR.out.grew ((Grew.refl wk24).drew1))
  have hst := G2.drew1
  refine wp_region_held_drew (S := fun w' => Grew w w') (by kernel_rfl) (by exact hst) (fun hHeld => ?_)
  replace hHeld : Grew w wk24.drew := hHeld
  generalize wk24.drew = wq25 at *
  refine wpAnyH_take (i := 0) (v := ?_) rfl (by kernel_rfl) (by kernel_rfl) (by kernel_rfl) (fun _ _ _ h => h) (Or.inl ⟨by rfl, ?_⟩) hHeld ?_
  rotate_left
  · intro wq hSw
    replace hSw : Grew w wq := hSw
    go_simp
    try with_reducible rfl
  try simp only [List.getElem_toArray, List.getElem_cons_succ, List.getElem_cons_zero, Act.put, List.setIfInBounds_toArray, List.set_cons_zero, List.set_cons_succ]
  refine wpAnyH_take (i := 1) (v := ?_) rfl (by kernel_rfl) (by kernel_rfl) (by kernel_rfl) (fun _ _ _ h => h) (Or.inl ⟨by rfl, ?_⟩) hHeld ?_
  rotate_left
  · intro wq hSw
    replace hSw : Grew w wq := hSw
    have r := HR0.out
    go_simp
    try with_reducible rfl
  try simp only [List.getElem_toArray, List.getElem_cons_succ, List.getElem_cons_zero, Act.put, List.setIfInBounds_toArray, List.set_cons_zero, List.set_cons_succ]
  refine wpAnyH_take (i := 4) (v := ?_) rfl (by kernel_rfl) (by kernel_rfl) (by kernel_rfl) (fun _ _ _ h => h) (Or.inl ⟨by rfl, ?_⟩) hHeld ?_
  rotate_left
  · intro wq hSw
    replace hSw : Grew w wq := hSw
    go_simp
    try with_reducible rfl
  try simp only [List.getElem_toArray, List.getElem_cons_succ, List.getElem_cons_zero, Act.put, List.setIfInBounds_toArray, List.set_cons_zero, List.set_cons_succ]
  refine wpAnyH_take (i := 5) (v := ?_) rfl (by kernel_rfl) (by kernel_rfl) (by kernel_rfl) (fun _ _ _ h => h) (Or.inl ⟨by rfl, ?_⟩) hHeld ?_
  rotate_left
  · intro wq hSw
    replace hSw : Grew w wq := hSw
    have r := HR2.out
    go_simp
    try with_reducible rfl
  try simp only [List.getElem_toArray, List.getElem_cons_succ, List.getElem_cons_zero, Act.put, List.setIfInBounds_toArray, List.set_cons_zero, List.set_cons_succ]
  refine wpAnyH_take (i := 9) (v := ?_) rfl (by kernel_rfl) (by kernel_rfl) (by kernel_rfl) (fun _ _ _ h => h) (Or.inl ⟨by rfl, ?_⟩) hHeld ?_
  rotate_left
  · intro wq hSw
    replace hSw : Grew w wq := hSw
    go_simp
    try with_reducible rfl
  try simp only [List.getElem_toArray, List.getElem_cons_succ, List.getElem_cons_zero, Act.put, List.setIfInBounds_toArray, List.set_cons_zero, List.set_cons_succ]
  refine wpAnyH_take (i := 10) (v := ?_) rfl (by kernel_rfl) (by kernel_rfl) (by kernel_rfl) (fun _ _ _ h => h) (Or.inl ⟨by rfl, ?_⟩) hHeld ?_
  rotate_left
  · intro wq hSw
    replace hSw : Grew w wq := hSw
    go_simp
    try with_reducible rfl
  try simp only [List.getElem_toArray, List.getElem_cons_succ, List.getElem_cons_zero, Act.put, List.setIfInBounds_toArray, List.set_cons_zero, List.set_cons_succ]
  refine wpAnyH_take (i := 11) (v := ?_) rfl (by kernel_rfl) (by kernel_rfl) (by kernel_rfl) (fun _ _ _ h => h) (Or.inl ⟨by rfl, ?_⟩) hHeld ?_
  rotate_left
  · intro wq hSw
    replace hSw : Grew w wq := hSw
    have r := HR8.out
    go_simp
    try with_reducible rfl
  try simp only [List.getElem_toArray, List.getElem_cons_succ, List.getElem_cons_zero, Act.put, List.setIfInBounds_toArray, List.set_cons_zero, List.set_cons_succ]
  refine wpAnyH_ready (rs := [2, 8]) (by kernel_rfl) (by simp) ?_
  refine AllReadyH.cons rfl (fun K hK => ?_) (AllReadyH.cons rfl (fun K hK => ?_) AllReadyH.nil)
  · go_simp
    refine (HG0.out _ hHeld).mono ?_
    rintro e wk26 ⟨rfl, gk26⟩
    replace HRR := Lib.hid (HRR.out.grew gk26)
    refine hK.out _ _ (hHeld.trans gk26) (fun hHeld => ?_)
    clear hK K
    try simp only [List.getElem_toArray, List.getElem_cons_succ, List.getElem_cons_zero, Act.put, List.setIfInBounds_toArray, List.set_cons_zero, List.set_cons_succ]
    refine wpAnyH_take (i := 3) (v := ?_) rfl (by kernel_rfl) (by kernel_rfl) (by kernel_rfl) (fun _ _ _ h => h) (Or.inl ⟨by rfl, ?_⟩) hHeld ?_
    rotate_left
    · intro wq hSw
      replace hSw : Grew w wq := hSw
      have ew := Ew0.out
      go_simp
      try with_reducible rfl
    try simp only [List.getElem_toArray, List.getElem_cons_succ, List.getElem_cons_zero, Act.put, List.setIfInBounds_toArray, List.set_cons_zero, List.set_cons_succ]
    refine wpAnyH_ready (rs := [6, 8]) (by kernel_rfl) (by simp) ?_
    refine AllReadyH.cons rfl (fun K hK => ?_) (AllReadyH.cons rfl (fun K hK => ?_) AllReadyH.nil)
    · go_simp
      refine (HG2.out _ hHeld).mono ?_
      rintro e wk27 ⟨rfl, gk27⟩
      replace HRR := Lib.hid (HRR.out.grew gk27)
      refine hK.out _ _ (hHeld.trans gk27) (fun hHeld => ?_)
      clear hK K
      try simp only [List.getElem_toArray, List.getElem_cons_succ, List.getElem_cons_zero, Act.put, List.setIfInBounds_toArray, List.set_cons_zero, List.set_cons_succ]
      refine wpAnyH_take (i := 7) (v := ?_) rfl (by kernel_rfl) (by kernel_rfl) (by kernel_rfl) (fun _ _ _ h => h) (Or.inl ⟨by rfl, ?_⟩) hHeld ?_
      rotate_left
      · intro wq hSw
        replace hSw : Grew w wq := hSw
        have ew := Ew2.out
        go_simp
        try with_reducible rfl
      try simp only [List.getElem_toArray, List.getElem_cons_succ, List.getElem_cons_zero, Act.put, List.setIfInBounds_toArray, List.set_cons_zero, List.set_cons_succ]
      refine wpAnyH_ready (rs := [8]) (by kernel_rfl) (by simp) ?_
      refine AllReadyH.cons rfl (fun K hK => ?_) AllReadyH.nil
      go_simp
      have lo := hHeld.size
      have hRQ := HRR.out.lt
      have R0 : Row (wk27.alloc (.cells #[] 5)) wk27.heap.size (.slice (some ⟨wk27.heap.size, 0, none⟩) 0 0) [] := Row.lit wk27 wk27.heap.size (Nat.le_refl _) #[] [] rfl (by unfold maxLen; simp) _ rfl 0 rfl
      replace R0 := Lib.hid (R0.low lo)
      have gk28 : Grew wk27 (wk27.alloc (.cells #[] 5)) := (Grew.refl _).alloc _
      replace HRR := Lib.hid (HRR.out.grew gk28)
      generalize (wk27.alloc (.cells #[] 5)) = wk28 at *
      generalize wk27.heap.size = Q0 at *
      refine hK.out _ _ (hHeld.trans gk28) (fun hHeld => ?_)
      clear hK K
      try simp only [List.getElem_toArray, List.getElem_cons_succ, List.getElem_cons_zero, Act.put, List.setIfInBounds_toArray, List.set_cons_zero, List.set_cons_succ]
      refine wpAnyH_ready (rs := [12]) (by kernel_rfl) (by simp) ?_
      refine AllReadyH.cons rfl (fun K hK => ?_) AllReadyH.nil
      refine step_append_off (by rfl) (.tmp 56) (.tmp 59) rfl hHeld R0.out (H8.out.grew hHeld) (by rfl) (by rfl) HL8.out ?_
      intro v12 wk29 R12 gk29 KO gb
      have hb12 := R12.out.buf HO8.out
      obtain ⟨p12, k12, rfl, z1, z2⟩ := hb12.shape
      have H12 := Lib.hid hb12
      replace HRR := Lib.hid (HRR.out.grownBy gb (by simp only [Value.ownBlock, ne_eq, Option.some.injEq]; omega))
      clear z1 z2 hb12 R12 KO gb
      refine hK.out _ _ (gk29) (fun hHeld => ?_)
      clear hK K
      try simp only [List.getElem_toArray, List.getElem_cons_succ, List.getElem_cons_zero, Act.put, List.setIfInBounds_toArray, List.set_cons_zero, List.set_cons_succ]
      refine wpAnyH_take (i := 13) (v := ?_) rfl (by kernel_rfl) (by kernel_rfl) (by kernel_rfl) (fun _ _ _ h => h) (Or.inl ⟨by rfl, ?_⟩) hHeld ?_
      rotate_left
      · intro wq hSw
        replace hSw : Grew w wq := hSw
        go_simp
        try with_reducible rfl
      try simp only [List.getElem_toArray, List.getElem_cons_succ, List.getElem_cons_zero, Act.put, List.setIfInBounds_toArray, List.set_cons_zero, List.set_cons_succ]
      refine wpAnyH_ready (rs := [14]) (by kernel_rfl) (by simp) ?_
      refine AllReadyH.cons rfl (fun K hK => ?_) AllReadyH.nil
      have hRk := HRR.out
      have x0 := hRk.cell 0
      have x1 := hRk.cell 1
      have x2 := hRk.cell 2
      have q0 := hRk.free 0
      have q1 := hRk.free 1
      have q2 := hRk.free 2
      go_simp
      have EB := Lib.hid (((hRk.set (o := 0) (.int .i64 g0)).set (o := 1) (.int .i64 g2)).set (o := 2) (.slice p12 (cutL xs 8 N).length k12))
      have KK := (((BufsKept.box (o := 0) hRk (by simp [noU8]) (.int .i64 g0)).trans (BufsKept.box (o := 1) (hRk.set (o := 0) (.int .i64 g0)) (by simp [noU8]) (.int .i64 g2))).trans (BufsKept.box (o := 2) ((hRk.set (o := 0) (.int .i64 g0)).set (o := 1) (.int .i64 g2)) (by simp [noU8]) (.slice p12 (cutL xs 8 N).length k12)))
      have GE := (((hHeld.setCell (b := R) (o := 0) (hwR) (.int .i64 g0)).setCell (b := R) (o := 1) (hwR) (.int .i64 g2)).setCell (b := R) (o := 2) (hwR) (.slice p12 (cutL xs 8 N).length k12))
      have H13 := Lib.hid (KK _ _ H12.out)
      refine hK.out _ _ (GE) (fun hHeld => ?_)
      clear hK K
      try simp only [List.getElem_toArray, List.getElem_cons_succ, List.getElem_cons_zero, Act.put, List.setIfInBounds_toArray, List.set_cons_zero, List.set_cons_succ]
      refine wpAnyH_take (i := 15) (v := ?_) rfl (by kernel_rfl) (by kernel_rfl) (by kernel_rfl) (fun _ _ _ h => h) (Or.inl ⟨by rfl, ?_⟩) hHeld ?_
      rotate_left
      · intro wq hSw
        replace hSw : Grew w wq := hSw
        go_simp
        try with_reducible rfl
      try simp only [List.getElem_toArray, List.getElem_cons_succ, List.getElem_cons_zero, Act.put, List.setIfInBounds_toArray, List.set_cons_zero, List.set_cons_succ]
      refine wpAnyH_done (by kernel_rfl) ?_ _
      try simp only [List.getElem_toArray, List.getElem_cons_succ, List.getElem_cons_zero, Act.put, List.setIfInBounds_toArray, List.set_cons_zero, List.set_cons_succ]
      have EV := EB.out
      have z0 := EV.cell 0
      have z1 := EV.cell 1
      have z2 := EV.cell 2
      go_wp2_with fail
      rw [HF.out]
      exact bodyPost_ret (v := .tuple #[.agg #[.int .i64 g0, .int .i64 g2, .slice p12 (cutL xs 8 N).length k12], .int .i64 0]) (by simp [results, Tryd.results10, go_sem, z0, z1, z2]) rfl ⟨_, rfl, Ud.of H13.out HI.out.1 HI.out.2, hHeld⟩
    · go_simp
      have lo := hHeld.size
      have hRQ := HRR.out.lt
      have R0 : Row (wk26.alloc (.cells #[] 5)) wk26.heap.size (.slice (some ⟨wk26.heap.size, 0, none⟩) 0 0) [] := Row.lit wk26 wk26.heap.size (Nat.le_refl _) #[] [] rfl (by unfold maxLen; simp) _ rfl 0 rfl
      replace R0 := Lib.hid (R0.low lo)
      have gk30 : Grew wk26 (wk26.alloc (.cells #[] 5)) := (Grew.refl _).alloc _
      replace HRR := Lib.hid (HRR.out.grew gk30)
      generalize (wk26.alloc (.cells #[] 5)) = wk30 at *
      generalize wk26.heap.size = Q0 at *
      refine hK.out _ _ (hHeld.trans gk30) (fun hHeld => ?_)
      clear hK K
      try simp only [List.getElem_toArray, List.getElem_cons_succ, List.getElem_cons_zero, Act.put, List.setIfInBounds_toArray, List.set_cons_zero, List.set_cons_succ]
      refine wpAnyH_ready (rs := [6]) (by kernel_rfl) (by simp) ?_
      refine AllReadyH.cons rfl (fun K hK => ?_) AllReadyH.nil
      go_simp
      refine (HG2.out _ hHeld).mono ?_
      rintro e wk31 ⟨rfl, gk31⟩
      replace HRR := Lib.hid (HRR.out.grew gk31)
      replace R0 := Lib.hid (R0.out.grew gk31)
      refine hK.out _ _ (hHeld.trans gk31) (fun hHeld => ?_)
      clear hK K
      try simp only [List.getElem_toArray, List.getElem_cons_succ, List.getElem_cons_zero, Act.put, List.setIfInBounds_toArray, List.set_cons_zero, List.set_cons_succ]
      refine wpAnyH_take (i := 7) (v := ?_) rfl (by kernel_rfl) (by kernel_rfl) (by kernel_rfl) (fun _ _ _ h => h) (Or.inl ⟨by rfl, ?_⟩) hHeld ?_
      rotate_left
      · intro wq hSw
        replace hSw : Grew w wq := hSw
        have ew := Ew2.out
        go_simp
        try with_reducible rfl
      try simp only [List.getElem_toArray, List.getElem_cons_succ, List.getElem_cons_zero, Act.put, List.setIfInBounds_toArray, List.set_cons_zero, List.set_cons_succ]
      refine wpAnyH_ready (rs := [12]) (by kernel_rfl) (by simp) ?_
      refine AllReadyH.cons rfl (fun K hK => ?_) AllReadyH.nil
      refine step_append_off (by rfl) (.tmp 56) (.tmp 59) rfl hHeld R0.out (H8.out.grew hHeld) (by rfl) (by rfl) HL8.out ?_
      intro v12 wk32 R12 gk32 KO gb
      have hb12 := R12.out.buf HO8.out
      obtain ⟨p12, k12, rfl, z1, z2⟩ := hb12.shape
      have H12 := Lib.hid hb12
      replace HRR := Lib.hid (HRR.out.grownBy gb (by simp only [Value.ownBlock, ne_eq, Option.some.injEq]; omega))
      clear z1 z2 hb12 R12 KO gb
      refine hK.out _ _ (gk32) (fun hHeld => ?_)
      clear hK K
      try simp only [List.getElem_toArray, List.getElem_cons_succ, List.getElem_cons_zero, Act.put, List.setIfInBounds_toArray, List.set_cons_zero, List.set_cons_succ]
      refine wpAnyH_take (i := 13) (v := ?_) rfl (by kernel_rfl) (by kernel_rfl) (by kernel_rfl) (fun _ _ _ h => h) (Or.inl ⟨by rfl, ?_⟩) hHeld ?_
      rotate_left
      · intro wq hSw
        replace hSw : Grew w wq := hSw
        go_simp
        try with_reducible rfl
      try simp only [List.getElem_toArray, List.getElem_cons_succ, List.getElem_cons_zero, Act.put, List.setIfInBounds_toArray, List.set_cons_zero, List.set_cons_succ]
      refine wpAnyH_ready (rs := [14]) (by kernel_rfl) (by simp) ?_
      refine AllReadyH.cons rfl (fun K hK => ?_) AllReadyH.nil
      have hRk := HRR.out
      have x0 := hRk.cell 0
      have x1 := hRk.cell 1
      have x2 := hRk.cell 2
      have q0 := hRk.free 0
      have q1 := hRk.free 1
      have q2 := hRk.free 2
      go_simp
      have EB := Lib.hid (((hRk.set (o := 0) (.int .i64 g0)).set (o := 1) (.int .i64 g2)).set (o := 2) (.slice p12 (cutL xs 8 N).length k12))
      have KK := (((BufsKept.box (o := 0) hRk (by simp [noU8]) (.int .i64 g0)).trans (BufsKept.box (o := 1) (hRk.set (o := 0) (.int .i64 g0)) (by simp [noU8]) (.int .i64 g2))).trans (BufsKept.box (o := 2) ((hRk.set (o := 0) (.int .i64 g0)).set (o := 1) (.int .i64 g2)) (by simp [noU8]) (.slice p12 (cutL xs 8 N).length k12)))
      have GE := (((hHeld.setCell (b := R) (o := 0) (hwR) (.int .i64 g0)).setCell (b := R) (o := 1) (hwR) (.int .i64 g2)).setCell (b := R) (o := 2) (hwR) (.slice p12 (cutL xs 8 N).length k12))
      have H13 := Lib.hid (KK _ _ H12.out)
      refine hK.out _ _ (GE) (fun hHeld => ?_)
      clear hK K
      try simp only [List.getElem_toArray, List.getElem_cons_succ, List.getElem_cons_zero, Act.put, List.setIfInBounds_toArray, List.set_cons_zero, List.set_cons_succ]
      refine wpAnyH_take (i := 15) (v := ?_) rfl (by kernel_rfl) (by kernel_rfl) (by kernel_rfl) (fun _ _ _ h => h) (Or.inl ⟨by rfl, ?_⟩) hHeld ?_
      rotate_left
      · intro wq hSw
        replace hSw : Grew w wq := hSw
        go_simp
        try with_reducible rfl
      try simp only [List.getElem_toArray, List.getElem_cons_succ, List.getElem_cons_zero, Act.put, List.setIfInBounds_toArray, List.set_cons_zero, List.set_cons_succ]
      refine wpAnyH_done (by kernel_rfl) ?_ _
      try simp only [List.getElem_toArray, List.getElem_cons_succ, List.getElem_cons_zero, Act.put, List.setIfInBounds_toArray, List.set_cons_zero, List.set_cons_succ]
      have EV := EB.out
      have z0 := EV.cell 0
      have z1 := EV.cell 1
      have z2 := EV.cell 2
      go_wp2_with fail
      rw [HF.out]
      exact bodyPost_ret (v := .tuple #[.agg #[.int .i64 g0, .int .i64 g2, .slice p12 (cutL xs 8 N).length k12], .int .i64 0]) (by simp [results, Tryd.results10, go_sem, z0, z1, z2]) rfl ⟨_, rfl, Ud.of H13.out HI.out.1 HI.out.2, hHeld⟩
  · go_simp
    have lo := hHeld.size
    have hRQ := HRR.out.lt
    have R0 : Row (wq25.alloc (.cells #[] 5)) wq25.heap.size (.slice (some ⟨wq25.heap.size, 0, none⟩) 0 0) [] := Row.lit wq25 wq25.heap.size (Nat.le_refl _) #[] [] rfl (by unfold maxLen; simp) _ rfl 0 rfl
    replace R0 := Lib.hid (R0.low lo)
    have gk33 : Grew wq25 (wq25.alloc (.cells #[] 5)) := (Grew.refl _).alloc _
    replace HRR := Lib.hid (HRR.out.grew gk33)
    generalize (wq25.alloc (.cells #[] 5)) = wk33 at *
    generalize wq25.heap.size = Q0 at *
    refine hK.out _ _ (hHeld.trans gk33) (fun hHeld => ?_)
    clear hK K
    try simp only [List.getElem_toArray, List.getElem_cons_succ, List.getElem_cons_zero, Act.put, List.setIfInBounds_toArray, List.set_cons_zero, List.set_cons_succ]
    refine wpAnyH_ready (rs := [2]) (by kernel_rfl) (by simp) ?_
    refine AllReadyH.cons rfl (fun K hK => ?_) AllReadyH.nil
    go_simp
    refine (HG0.out _ hHeld).mono ?_
    rintro e wk34 ⟨rfl, gk34⟩
    replace HRR := Lib.hid (HRR.out.grew gk34)
    replace R0 := Lib.hid (R0.out.grew gk34)
    refine hK.out _ _ (hHeld.trans gk34) (fun hHeld => ?_)
    clear hK K
    try simp only [List.getElem_toArray, List.getElem_cons_succ, List.getElem_cons_zero, Act.put, List.setIfInBounds_toArray, List.set_cons_zero, List.set_cons_succ]
    refine wpAnyH_take (i := 3) (v := ?_) rfl (by kernel_rfl) (by kernel_rfl) (by kernel_rfl) (fun _ _ _ h => h) (Or.inl ⟨by rfl, ?_⟩) hHeld ?_
    rotate_left
    · intro wq hSw
      replace hSw : Grew w wq := hSw
      have ew := Ew0.out
      go_simp
      try with_reducible rfl
    try simp only [List.getElem_toArray, List.getElem_cons_succ, List.getElem_cons_zero, Act.put, List.setIfInBounds_toArray, List.set_cons_zero, List.set_cons_succ]
    refine wpAnyH_ready (rs := [6]) (by kernel_rfl) (by simp) ?_
    refine AllReadyH.cons rfl (fun K hK => ?_) AllReadyH.nil
    go_simp
    refine (HG2.out _ hHeld).mono ?_
    rintro e wk35 ⟨rfl, gk35⟩
    replace HRR := Lib.hid (HRR.out.grew gk35)
    replace R0 := Lib.hid (R0.out.grew gk35)
    refine hK.out _ _ (hHeld.trans gk35) (fun hHeld => ?_)
    clear hK K
    try simp only [List.getElem_toArray, List.getElem_cons_succ, List.getElem_cons_zero, Act.put, List.setIfInBounds_toArray, List.set_cons_zero, List.set_cons_succ]
    refine wpAnyH_take (i := 7) (v := ?_) rfl (by kernel_rfl) (by kernel_rfl) (by kernel_rfl) (fun _ _ _ h => h) (Or.inl ⟨by rfl, ?_⟩) hHeld ?_
    rotate_left
    · intro wq hSw
      replace hSw : Grew w wq := hSw
      have ew := Ew2.out
      go_simp
      try with_reducible rfl
    try simp only [List.getElem_toArray, List.getElem_cons_succ, List.getElem_cons_zero, Act.put, List.setIfInBounds_toArray, List.set_cons_zero, List.set_cons_succ]
    refine wpAnyH_ready (rs := [12]) (by kernel_rfl) (by simp) ?_
    refine AllReadyH.cons rfl (fun K hK => ?_) AllReadyH.nil
    refine step_append_off (by rfl) (.tmp 56) (.tmp 59) rfl hHeld R0.out (H8.out.grew hHeld) (by rfl) (by rfl) HL8.out ?_
    intro v12 wk36 R12 gk36 KO gb
    have hb12 := R12.out.buf HO8.out
    obtain ⟨p12, k12, rfl, z1, z2⟩ := hb12.shape
    have H12 := Lib.hid hb12
    replace HRR := Lib.hid (HRR.out.grownBy gb (by simp only [Value.ownBlock, ne_eq, Option.some.injEq]; omega))
    clear z1 z2 hb12 R12 KO gb
    refine hK.out _ _ (gk36) (fun hHeld => ?_)
    clear hK K
    try simp only [List.getElem_toArray, List.getElem_cons_succ, List.getElem_cons_zero, Act.put, List.setIfInBounds_toArray, List.set_cons_zero, List.set_cons_succ]
    refine wpAnyH_take (i := 13) (v := ?_) rfl (by kernel_rfl) (by kernel_rfl) (by kernel_rfl) (fun _ _ _ h => h) (Or.inl ⟨by rfl, ?_⟩) hHeld ?_
    rotate_left
    · intro wq hSw
      replace hSw : Grew w wq := hSw
      go_simp
      try with_reducible rfl
    try simp only [List.getElem_toArray, List.getElem_cons_succ, List.getElem_cons_zero, Act.put, List.setIfInBounds_toArray, List.set_cons_zero, List.set_cons_succ]
    refine wpAnyH_ready (rs := [14]) (by kernel_rfl) (by simp) ?_
    refine AllReadyH.cons rfl (fun K hK => ?_) AllReadyH.nil
    have hRk := HRR.out
    have x0 := hRk.cell 0
    have x1 := hRk.cell 1
    have x2 := hRk.cell 2
    have q0 := hRk.free 0
    have q1 := hRk.free 1
    have q2 := hRk.free 2
    go_simp
    have EB := Lib.hid (((hRk.set (o := 0) (.int .i64 g0)).set (o := 1) (.int .i64 g2)).set (o := 2) (.slice p12 (cutL xs 8 N).length k12))
    have KK := (((BufsKept.box (o := 0) hRk (by simp [noU8]) (.int .i64 g0)).trans (BufsKept.box (o := 1) (hRk.set (o := 0) (.int .i64 g0)) (by simp [noU8]) (.int .i64 g2))).trans (BufsKept.box (o := 2) ((hRk.set (o := 0) (.int .i64 g0)).set (o := 1) (.int .i64 g2)) (by simp [noU8]) (.slice p12 (cutL xs 8 N).length k12)))
    have GE := (((hHeld.setCell (b := R) (o := 0) (hwR) (.int .i64 g0)).setCell (b := R) (o := 1) (hwR) (.int .i64 g2)).setCell (b := R) (o := 2) (hwR) (.slice p12 (cutL xs 8 N).length k12))
    have H13 := Lib.hid (KK _ _ H12.out)
    refine hK.out _ _ (GE) (fun hHeld => ?_)
    clear hK K
    try simp only [List.getElem_toArray, List.getElem_cons_succ, List.getElem_cons_zero, Act.put, List.setIfInBounds_toArray, List.set_cons_zero, List.set_cons_succ]
    refine wpAnyH_take (i := 15) (v := ?_) rfl (by kernel_rfl) (by kernel_rfl) (by kernel_rfl) (fun _ _ _ h => h) (Or.inl ⟨by rfl, ?_⟩) hHeld ?_
    rotate_left
    · intro wq hSw
      replace hSw : Grew w wq := hSw
      go_simp
      try with_reducible rfl
    try simp only [List.getElem_toArray, List.getElem_cons_succ, List.getElem_cons_zero, Act.put, List.setIfInBounds_toArray, List.set_cons_zero, List.set_cons_succ]
    refine wpAnyH_done (by kernel_rfl) ?_ _
    try simp only [List.getElem_toArray, List.getElem_cons_succ, List.getElem_cons_zero, Act.put, List.setIfInBounds_toArray, List.set_cons_zero, List.set_cons_succ]
    have EV := EB.out
    have z0 := EV.cell 0
    have z1 := EV.cell 1
    have z2 := EV.cell 2
    go_wp2_with fail
    rw [HF.out]
    exact bodyPost_ret (v := .tuple #[.agg #[.int .i64 g0, .int .i64 g2, .slice p12 (cutL xs 8 N).length k12], .int .i64 0]) (by simp [results, Tryd.results10, go_sem, z0, z1, z2]) rfl ⟨_, rfl, Ud.of H13.out HI.out.1 HI.out.2, hHeld⟩
set_option maxHeartbeats 8000000 in
theorem refGetU_bn (a : Option Addr) (n c : Nat) (xs : List Int) (src dst : Int) (hsr : 0 ≤ src ∧ src < 4294967296) (hdr : 0 ≤ dst ∧ dst < 4294967296) (hs : ¬ ((n : Int) < 8)) {w : World} (hb : Buf w (.slice a n c) xs) (h1 : ¬ nU xs < 8) (h2 : ¬ xs.length < nU xs) (h6 : (xs.getD 6 0 != 0) = false) (h7 : (xs.getD 7 0 != 0) = true) (hsm : ¬ sumV (psU src dst (nU xs) ++ cutL xs 0 (nU xs)) = 0) :
    Calls Tryd.prog 10 #[.slice a n c, .int .u32 src, .int .u32 dst] w fun e w' => ∃ u, e = .returned (.tuple #[u, .int .i64 162]) ∧ Ud w' u zU ∧ Grew w w' := by
  have hn := hb.lenEq.1
  have hne : xs ≠ [] := by rintro rfl; simp at hn; omega
  obtain ⟨_, _, ea, _, hat⟩ := hb.shape
  simp only [Value.slice.injEq] at ea
  obtain ⟨rfl, hn', rfl⟩ := ea
  clear hn'
  obtain ⟨bk, off, rfl, hat2⟩ := hat hne
  have HBL := Lib.hid (hat2.lt hne)
  have HC6 : Hid (w.cell? ⟨bk, off + 6, none⟩ = some (.int .u8 (xs.getD 6 0))) := Lib.hid (hat2 6 (by omega))
  have HC7 : Hid (w.cell? ⟨bk, off + 7, none⟩ = some (.int .u8 (xs.getD 7 0))) := Lib.hid (hat2 7 (by omega))
  have hm0 := getG_lt (hb.ok.cut 4 6) true (n := 2) (cutL_length (by omega) (by omega)) (by omega)
  rw [show (2 : Int) ^ (8 * 2) = 65536 by decide] at hm0
  have hM : getV (cutL xs 4 6) true = ((nU xs : Nat) : Int) := by unfold nU; omega
  have HMB := Lib.hid (show nU xs ≤ 65535 by unfold nU; omega)
  obtain ⟨a4, c4, H4, x1, r4, x3, x4⟩ := hb.run_cut (lo := 4) (hi := 6) (by omega) (by omega)
  have r4 : ∀ w', (Instr.sliceAt 22 (.slice (some ⟨bk, off, none⟩) n c) (some (.int .i64 4)) (some (.int .i64 6)) none).run Tryd.prog w' = .ok (.slice a4 2 c4) w' := r4 .i64 .i64
  have HG4 := Lib.hid (fun w' (g : Grew w w') => refGetB_c (by rw [cutL_length (by omega) (by omega)]; omega) (H4.grew g))
  rw [hM] at HG4
  have ew4 : IntKind.i64.wrap ((nU xs : Nat) : Int) = ((nU xs : Nat) : Int) := IntWalk.i64_in _ (by have := HMB.out; omega)
  clear x1 x3 x4 hat hat2 hne hm0 hM H4
  have k1 : ¬ (((nU xs : Nat) : Int) < 8) := by omega
  have k2 : ¬ (((n : Nat) : Int) < ((nU xs : Nat) : Int)) := by omega
  have k6 : (6 : Int) < (n : Nat) := by omega
  have k7 : (7 : Int) < (n : Nat) := by omega
  have HB := Lib.hid hb
  obtain ⟨a9, c9, H9, x1, x2, x3, x4⟩ := HB.out.run_cut (lo := 0) (hi := (nU xs)) (by omega) (by omega)
  have HR9 : Hid (∀ w', (Instr.sliceAt 22 (.slice (some ⟨bk, off, none⟩) n c) none (some (.int .i64 ((nU xs : Nat) : Int))) none).run Tryd.prog w' = .ok (.slice a9 (nU xs) c9) w') := Lib.hid (x3 rfl .i64)
  replace H9 : Hid (Buf w (.slice a9 (nU xs) c9) (cutL xs 0 (nU xs))) := Lib.hid H9
  clear x1 x2 x3 x4
  have HSM := Lib.hid (show decide (sumV (psU src dst (nU xs) ++ cutL xs 0 (nU xs)) = 0) = false from decide_eq_false hsm)
  have HL9 := Lib.hid (show (psU src dst (nU xs)).length + (cutL xs 0 (nU xs)).length ≤ 140737488355328 by rw [psU_len, cutL_length (by omega) (by omega)]; have := HMB.out; omega)
  have HO9 := Lib.hid ((psU_ok src dst (nU xs)).append (HB.out.ok.cut 0 (nU xs)))
  clear hsm
  have H6 := Lib.hid h6
  have H7 := Lib.hid h7
  clear hb hn h1 h2 h6 h7
  generalize nU xs = N at *
  generalize xs.getD 6 0 = y6 at *
  generalize xs.getD 7 0 = y7 at *
  go_enter Tryd.func10, Tryd.ntmps10
  go_upto_region 1 with fail
  have hR : Blk (w.alloc (.cells #[.int .i64 0, .int .i64 0, .slice none 0 0] 24)) w.heap.size #[.int .i64 0, .int .i64 0, .slice none 0 0] 24 := Blk.new _ _ _ _ rfl
  have G : Grew w (w.alloc (.cells #[.int .i64 0, .int .i64 0, .slice none 0 0] 24)) := (Grew.refl _).alloc _
  generalize (w.alloc (.cells #[.int .i64 0, .int .i64 0, .slice none 0 0] 24)) = w0 at *
  generalize hlR : w.heap.size = R at *
  have hwR : w.heap.size ≤ R := Nat.le_of_eq hlR
  go_wp2_with fail
  refine (HG4.out _ G).mono ?_
  rintro e w1 ⟨rfl, g1⟩
  have G1 := G.trans g1
  have hR1 := hR.grew g1
  go_upto_region 8 with fail
  clear ew4 r4
  have hst := (Grew.refl w1).drew1
  refine wp_region_held_drew (S := fun w' => Grew w1 w') (by kernel_rfl) (by exact hst) (fun hHeld => ?_)
  replace hHeld : Grew w1 w1.drew := hHeld
  generalize w1.drew = wq37 at *
  refine wpAnyH_take (i := 0) (v := ?_) rfl (by kernel_rfl) (by kernel_rfl) (by kernel_rfl) (fun _ _ _ h => h) (Or.inl ⟨by rfl, ?_⟩) hHeld ?_
  rotate_left
  · intro wq hSw
    replace hSw : Grew w1 wq := hSw
    go_simp
    try with_reducible rfl
  try simp only [List.getElem_toArray, List.getElem_cons_succ, List.getElem_cons_zero, Act.put, List.setIfInBounds_toArray, List.set_cons_zero, List.set_cons_succ]
  refine wpAnyH_take (i := 1) (v := ?_) rfl (by kernel_rfl) (by kernel_rfl) (by kernel_rfl) (fun _ _ _ h => h) (Or.inl ⟨by rfl, ?_⟩) hHeld ?_
  rotate_left
  · intro wq hSw
    replace hSw : Grew w1 wq := hSw
    have k6' := k6
    go_simp
    try with_reducible rfl
  try simp only [List.getElem_toArray, List.getElem_cons_succ, List.getElem_cons_zero, Act.put, List.setIfInBounds_toArray, List.set_cons_zero, List.set_cons_succ]
  refine wpAnyH_take (i := 2) (v := ?_) rfl (by kernel_rfl) (by kernel_rfl) (by kernel_rfl) (fun _ _ _ h => h) (Or.inl ⟨by rfl, ?_⟩) hHeld ?_
  rotate_left
  · intro wq hSw
    replace hSw : Grew w1 wq := hSw
    have z6 : wq.cell? ⟨bk, off + 6, none⟩ = some (.int .u8 y6) := by rw [(gcell (G1.trans hSw)).1 bk _ (by rw [hlR]; exact HBL.out)]; exact HC6.out
    go_simp
    try with_reducible rfl
  try simp only [List.getElem_toArray, List.getElem_cons_succ, List.getElem_cons_zero, Act.put, List.setIfInBounds_toArray, List.set_cons_zero, List.set_cons_succ]
  refine wpAnyH_take (i := 3) (v := ?_) rfl (by kernel_rfl) (by kernel_rfl) (by kernel_rfl) (fun _ _ _ h => h) (Or.inl ⟨by rfl, ?_⟩) hHeld ?_
  rotate_left
  · intro wq hSw
    replace hSw : Grew w1 wq := hSw
    have h6 := H6.out
    go_simp
    try with_reducible rfl
  try simp only [List.getElem_toArray, List.getElem_cons_succ, List.getElem_cons_zero, Act.put, List.setIfInBounds_toArray, List.set_cons_zero, List.set_cons_succ]
  refine wpAnyH_take (i := 4) (v := ?_) rfl (by kernel_rfl) (by kernel_rfl) (by kernel_rfl) (fun _ _ _ h => h) (Or.inl ⟨by rfl, ?_⟩) hHeld ?_
  rotate_left
  · intro wq hSw
    replace hSw : Grew w1 wq := hSw
    go_simp
    try with_reducible rfl
  try simp only [List.getElem_toArray, List.getElem_cons_succ, List.getElem_cons_zero, Act.put, List.setIfInBounds_toArray, List.set_cons_zero, List.set_cons_succ]
  refine wpAnyH_take (i := 5) (v := ?_) rfl (by kernel_rfl) (by kernel_rfl) (by kernel_rfl) (fun _ _ _ h => h) (Or.inl ⟨by rfl, ?_⟩) hHeld ?_
  rotate_left
  · intro wq hSw
    replace hSw : Grew w1 wq := hSw
    go_simp
    try with_reducible rfl
  try simp only [List.getElem_toArray, List.getElem_cons_succ, List.getElem_cons_zero, Act.put, List.setIfInBounds_toArray, List.set_cons_zero, List.set_cons_succ]
  refine wpAnyH_take (i := 6) (v := ?_) rfl (by kernel_rfl) (by kernel_rfl) (by kernel_rfl) (fun _ _ _ h => h) (Or.inl ⟨by rfl, ?_⟩) hHeld ?_
  rotate_left
  · intro wq hSw
    replace hSw : Grew w1 wq := hSw
    go_simp
    try with_reducible rfl
  try simp only [List.getElem_toArray, List.getElem_cons_succ, List.getElem_cons_zero, Act.put, List.setIfInBounds_toArray, List.set_cons_zero, List.set_cons_succ]
  refine wpAnyH_take (i := 7) (v := ?_) rfl (by kernel_rfl) (by kernel_rfl) (by kernel_rfl) (fun _ _ _ h => h) (Or.inl ⟨by rfl, ?_⟩) hHeld ?_
  rotate_left
  · intro wq hSw
    replace hSw : Grew w1 wq := hSw
    have z7 : wq.cell? ⟨bk, off + 7, none⟩ = some (.int .u8 y7) := by rw [(gcell (G1.trans hSw)).1 bk _ (by rw [hlR]; exact HBL.out)]; exact HC7.out
    go_simp
    try with_reducible rfl
  try simp only [List.getElem_toArray, List.getElem_cons_succ, List.getElem_cons_zero, Act.put, List.setIfInBounds_toArray, List.set_cons_zero, List.set_cons_succ]
  refine wpAnyH_take (i := 8) (v := ?_) rfl (by kernel_rfl) (by kernel_rfl) (by kernel_rfl) (fun _ _ _ h => h) (Or.inl ⟨by rfl, ?_⟩) hHeld ?_
  rotate_left
  · intro wq hSw
    replace hSw : Grew w1 wq := hSw
    have h7 := H7.out
    go_simp
    try with_reducible rfl
  try simp only [List.getElem_toArray, List.getElem_cons_succ, List.getElem_cons_zero, Act.put, List.setIfInBounds_toArray, List.set_cons_zero, List.set_cons_succ]
  refine wpAnyH_take (i := 9) (v := ?_) rfl (by kernel_rfl) (by kernel_rfl) (by kernel_rfl) (fun _ _ _ h => h) (Or.inl ⟨by rfl, ?_⟩) hHeld ?_
  rotate_left
  · intro wq hSw
    replace hSw : Grew w1 wq := hSw
    go_simp
    try with_reducible rfl
  try simp only [List.getElem_toArray, List.getElem_cons_succ, List.getElem_cons_zero, Act.put, List.setIfInBounds_toArray, List.set_cons_zero, List.set_cons_succ]
  refine wpAnyH_take (i := 10) (v := ?_) rfl (by kernel_rfl) (by kernel_rfl) (by kernel_rfl) (fun _ _ _ h => h) (Or.inl ⟨by rfl, ?_⟩) hHeld ?_
  rotate_left
  · intro wq hSw
    replace hSw : Grew w1 wq := hSw
    go_simp
    try with_reducible rfl
  try simp only [List.getElem_toArray, List.getElem_cons_succ, List.getElem_cons_zero, Act.put, List.setIfInBounds_toArray, List.set_cons_zero, List.set_cons_succ]
  refine wpAnyH_take (i := 11) (v := ?_) rfl (by kernel_rfl) (by kernel_rfl) (by kernel_rfl) (fun _ _ _ h => h) (Or.inl ⟨by rfl, ?_⟩) hHeld ?_
  rotate_left
  · intro wq hSw
    replace hSw : Grew w1 wq := hSw
    go_simp
    try with_reducible rfl
  try simp only [List.getElem_toArray, List.getElem_cons_succ, List.getElem_cons_zero, Act.put, List.setIfInBounds_toArray, List.set_cons_zero, List.set_cons_succ]
  refine wpAnyH_take (i := 12) (v := ?_) rfl (by kernel_rfl) (by kernel_rfl) (by kernel_rfl) (fun _ _ _ h => h) (Or.inl ⟨by rfl, ?_⟩) hHeld ?_
  rotate_left
  · intro wq hSw
    replace hSw : Grew w1 wq := hSw
    go_simp
    try with_reducible rfl
  try simp only [List.getElem_toArray, List.getElem_cons_succ, List.getElem_cons_zero, Act.put, List.setIfInBounds_toArray, List.set_cons_zero, List.set_cons_succ]
  refine wpAnyH_take (i := 13) (v := ?_) rfl (by kernel_rfl) (by kernel_rfl) (by kernel_rfl) (fun _ _ _ h => h) (Or.inl ⟨by rfl, ?_⟩) hHeld ?_
  rotate_left
  · intro wq hSw
    replace hSw : Grew w1 wq := hSw
    go_simp
    try with_reducible rfl
  try simp only [List.getElem_toArray, List.getElem_cons_succ, List.getElem_cons_zero, Act.put, List.setIfInBounds_toArray, List.set_cons_zero, List.set_cons_succ]
  refine wpAnyH_take (i := 15) (v := ?_) rfl (by kernel_rfl) (by kernel_rfl) (by kernel_rfl) (fun _ _ _ h => h) (Or.inl ⟨by rfl, ?_⟩) hHeld ?_
  rotate_left
  · intro wq hSw
    replace hSw : Grew w1 wq := hSw
    go_simp
    try with_reducible rfl
  try simp only [List.getElem_toArray, List.getElem_cons_succ, List.getElem_cons_zero, Act.put, List.setIfInBounds_toArray, List.set_cons_zero, List.set_cons_succ]
  refine wpAnyH_take (i := 16) (v := ?_) rfl (by kernel_rfl) (by kernel_rfl) (by kernel_rfl) (fun _ _ _ h => h) (Or.inl ⟨by rfl, ?_⟩) hHeld ?_
  rotate_left
  · intro wq hSw
    replace hSw : Grew w1 wq := hSw
    go_simp
    try with_reducible rfl
  try simp only [List.getElem_toArray, List.getElem_cons_succ, List.getElem_cons_zero, Act.put, List.setIfInBounds_toArray, List.set_cons_zero, List.set_cons_succ]
  refine wpAnyH_take (i := 17) (v := ?_) rfl (by kernel_rfl) (by kernel_rfl) (by kernel_rfl) (fun _ _ _ h => h) (Or.inl ⟨by rfl, ?_⟩) hHeld ?_
  rotate_left
  · intro wq hSw
    replace hSw : Grew w1 wq := hSw
    have r := HR9.out
    go_simp
    try with_reducible rfl
  try simp only [List.getElem_toArray, List.getElem_cons_succ, List.getElem_cons_zero, Act.put, List.setIfInBounds_toArray, List.set_cons_zero, List.set_cons_succ]
  refine wpAnyH_ready (rs := [14]) (by kernel_rfl) (by simp) ?_
  refine AllReadyH.cons rfl (fun K hK => ?_) AllReadyH.nil
  go_simp
  refine (refPseudo_c src dst 17 (N : Nat) hsr hdr (by omega) (by have := HMB.out; omega) wq37).mono ?_
  rintro e wk38 ⟨u1, rfl, R1, b1, gk38⟩
  replace R1 := Lib.hid (R1.low hHeld.size)
  clear b1
  refine hK.out _ _ (hHeld.trans gk38) (fun hHeld => ?_)
  clear hK K
  try simp only [List.getElem_toArray, List.getElem_cons_succ, List.getElem_cons_zero, Act.put, List.setIfInBounds_toArray, List.set_cons_zero, List.set_cons_succ]
  refine wpAnyH_ready (rs := [18]) (by kernel_rfl) (by simp) ?_
  refine AllReadyH.cons rfl (fun K hK => ?_) AllReadyH.nil
  refine step_append_off (by rfl) (.tmp 39) (.tmp 42) rfl hHeld R1.out (H9.out.grew (G1.trans hHeld)) (by rfl) (by rfl) HL9.out ?_
  intro v18 wk39 R2 gk39 KO gb
  clear KO gb
  refine hK.out _ _ (gk39) (fun hHeld => ?_)
  clear hK K
  try simp only [List.getElem_toArray, List.getElem_cons_succ, List.getElem_cons_zero, Act.put, List.setIfInBounds_toArray, List.set_cons_zero, List.set_cons_succ]
  refine wpAnyH_ready (rs := [19]) (by kernel_rfl) (by simp) ?_
  refine AllReadyH.cons rfl (fun K hK => ?_) AllReadyH.nil
  go_simp
  refine (refRight_c wk39 (R2.out.buf HO9.out) (by rw [List.length_append]; exact HL9.out)).mono ?_
  rintro e wk40 ⟨rfl, gk40⟩
  rw [show decide (sumV (pseudoV src dst 17 ((N : Nat) : Int) ++ cutL xs 0 N) = 0) = false from HSM.out]
  refine hK.out _ _ (hHeld.trans gk40) (fun hHeld => ?_)
  clear hK K
  try simp only [List.getElem_toArray, List.getElem_cons_succ, List.getElem_cons_zero, Act.put, List.setIfInBounds_toArray, List.set_cons_zero, List.set_cons_succ]
  refine wpAnyH_take (i := 20) (v := ?_) rfl (by kernel_rfl) (by kernel_rfl) (by kernel_rfl) (fun _ _ _ h => h) (Or.inl ⟨by rfl, ?_⟩) hHeld ?_
  rotate_left
  · intro wq hSw
    replace hSw : Grew w1 wq := hSw
    go_simp
    try with_reducible rfl
  try simp only [List.getElem_toArray, List.getElem_cons_succ, List.getElem_cons_zero, Act.put, List.setIfInBounds_toArray, List.set_cons_zero, List.set_cons_succ]
  refine wpAnyH_take (i := 21) (v := ?_) rfl (by kernel_rfl) (by kernel_rfl) (by kernel_rfl) (fun _ _ _ h => h) (Or.inl ⟨by rfl, ?_⟩) hHeld ?_
  rotate_left
  · intro wq hSw
    replace hSw : Grew w1 wq := hSw
    go_simp
    try with_reducible rfl
  try simp only [List.getElem_toArray, List.getElem_cons_succ, List.getElem_cons_zero, Act.put, List.setIfInBounds_toArray, List.set_cons_zero, List.set_cons_succ]
  refine wpAnyH_done (by kernel_rfl) ?_ _
  try simp only [List.getElem_toArray, List.getElem_cons_succ, List.getElem_cons_zero, Act.put, List.setIfInBounds_toArray, List.set_cons_zero, List.set_cons_succ]
  have G2 := G1.trans hHeld
  have hR2 := hR1.grew hHeld
  clear hHeld hR1 hR G g1
  have y0 := hR2.cell 0
  have y1 := hR2.cell 1
  have y2 := hR2.cell 2
  have f0 := hR2.free 0
  have f1 := hR2.free 1
  have f2 := hR2.free 2
  go_wp2_with fail
  have E := (((hR2.set (o := 0) (.int .i64 0)).set (o := 1) (.int .i64 0)).set (o := 2) (.slice none 0 0))
  have GE := (((G2.setCell (b := R) (o := 0) (by omega) (.int .i64 0)).setCell (b := R) (o := 1) (by omega) (.int .i64 0)).setCell (b := R) (o := 2) (by omega) (.slice none 0 0))
  have z0 := E.cell 0
  have z1 := E.cell 1
  have z2 := E.cell 2
  exact bodyPost_ret (v := .tuple #[.agg #[.int .i64 0, .int .i64 0, .slice none 0 0], .int .i64 162]) (by simp [results, Tryd.results10, go_sem, z0, z1, z2]) rfl ⟨_, rfl, Ud.zero _, GE⟩
set_option maxHeartbeats 8000000 in
theorem refGetU_cy (a : Option Addr) (n c : Nat) (xs : List Int) (src dst : Int) (hsr : 0 ≤ src ∧ src < 4294967296) (hdr : 0 ≤ dst ∧ dst < 4294967296) (hs : ¬ ((n : Int) < 8)) {w : World} (hb : Buf w (.slice a n c) xs) (h1 : ¬ nU xs < 8) (h2 : ¬ xs.length < nU xs) (h6 : (xs.getD 6 0 != 0) = false) (h7 : (xs.getD 7 0 != 0) = false) :
    Calls Tryd.prog 10 #[.slice a n c, .int .u32 src, .int .u32 dst] w fun e w' => ∃ u, e = .returned (.tuple #[u, .int .i64 0]) ∧ Ud w' u (udOf xs) ∧ Grew w w' := by
  have hn := hb.lenEq.1
  have hne : xs ≠ [] := by rintro rfl; simp at hn; omega
  obtain ⟨_, _, ea, _, hat⟩ := hb.shape
  simp only [Value.slice.injEq] at ea
  obtain ⟨rfl, hn', rfl⟩ := ea
  clear hn'
  obtain ⟨bk, off, rfl, hat2⟩ := hat hne
  have HBL := Lib.hid (hat2.lt hne)
  have HC6 : Hid (w.cell? ⟨bk, off + 6, none⟩ = some (.int .u8 (xs.getD 6 0))) := Lib.hid (hat2 6 (by omega))
  have HC7 : Hid (w.cell? ⟨bk, off + 7, none⟩ = some (.int .u8 (xs.getD 7 0))) := Lib.hid (hat2 7 (by omega))
  have hm0 := getG_lt (hb.ok.cut 4 6) true (n := 2) (cutL_length (by omega) (by omega)) (by omega)
  rw [show (2 : Int) ^ (8 * 2) = 65536 by decide] at hm0
  have hM : getV (cutL xs 4 6) true = ((nU xs : Nat) : Int) := by unfold nU; omega
  have HMB := Lib.hid (show nU xs ≤ 65535 by unfold nU; omega)
  obtain ⟨a4, c4, H4, x1, r4, x3, x4⟩ := hb.run_cut (lo := 4) (hi := 6) (by omega) (by omega)
  have r4 : ∀ w', (Instr.sliceAt 22 (.slice (some ⟨bk, off, none⟩) n c) (some (.int .i64 4)) (some (.int .i64 6)) none).run Tryd.prog w' = .ok (.slice a4 2 c4) w' := r4 .i64 .i64
  have HG4 := Lib.hid (fun w' (g : Grew w w') => refGetB_c (by rw [cutL_length (by omega) (by omega)]; omega) (H4.grew g))
  rw [hM] at HG4
  have ew4 : IntKind.i64.wrap ((nU xs : Nat) : Int) = ((nU xs : Nat) : Int) := IntWalk.i64_in _ (by have := HMB.out; omega)
  clear x1 x3 x4 hat hat2 hne hm0 hM H4
  have k1 : ¬ (((nU xs : Nat) : Int) < 8) := by omega
  have k2 : ¬ (((n : Nat) : Int) < ((nU xs : Nat) : Int)) := by omega
  have k6 : (6 : Int) < (n : Nat) := by omega
  have k7 : (7 : Int) < (n : Nat) := by omega
  have HB := Lib.hid hb
  obtain ⟨a0, c0, H0, x1, x2, x3, x4⟩ := HB.out.run_cut (lo := 0) (hi := 2) (by omega) (by omega)
  have HR0 : Hid (∀ w', (Instr.sliceAt 22 (.slice (some ⟨bk, off, none⟩) n c) none (some (.int .i64 2)) none).run Tryd.prog w' = .ok (.slice a0 2 c0) w') := Lib.hid (x3 rfl .i64)
  replace H0 : Hid (Buf w (.slice a0 2 c0) (cutL xs 0 2)) := Lib.hid H0
  clear x1 x2 x3 x4
  obtain ⟨a2, c2, H2, x1, x2, x3, x4⟩ := HB.out.run_cut (lo := 2) (hi := 4) (by omega) (by omega)
  have HR2 : Hid (∀ w', (Instr.sliceAt 22 (.slice (some ⟨bk, off, none⟩) n c) (some (.int .i64 2)) (some (.int .i64 4)) none).run Tryd.prog w' = .ok (.slice a2 2 c2) w') := Lib.hid (x2 .i64 .i64)
  replace H2 : Hid (Buf w (.slice a2 2 c2) (cutL xs 2 4)) := Lib.hid H2
  clear x1 x2 x3 x4
  obtain ⟨a8, c8, H8, x1, x2, x3, x4⟩ := HB.out.run_cut (lo := 8) (hi := (nU xs)) (by omega) (by omega)
  have HR8 : Hid (∀ w', (Instr.sliceAt 22 (.slice (some ⟨bk, off, none⟩) n c) (some (.int .i64 8)) (some (.int .i64 ((nU xs : Nat) : Int))) none).run Tryd.prog w' = .ok (.slice a8 ((nU xs) - 8) c8) w') := Lib.hid (x2 .i64 .i64)
  replace H8 : Hid (Buf w (.slice a8 ((nU xs) - 8) c8) (cutL xs 8 (nU xs))) := Lib.hid H8
  clear x1 x2 x3 x4
  have HG0 := Lib.hid (fun w' (g : Grew w w') => refGetB_c (by rw [cutL_length (by omega) (by omega)]; omega) (H0.out.grew g))
  have hg0 := getG_lt (HB.out.ok.cut 0 2) true (n := 2) (cutL_length (by omega) (by omega)) (by omega)
  rw [show (2 : Int) ^ (8 * 2) = 65536 by decide] at hg0
  have HG2 := Lib.hid (fun w' (g : Grew w w') => refGetB_c (by rw [cutL_length (by omega) (by omega)]; omega) (H2.out.grew g))
  have hg2 := getG_lt (HB.out.ok.cut 2 4) true (n := 2) (cutL_length (by omega) (by omega)) (by omega)
  rw [show (2 : Int) ^ (8 * 2) = 65536 by decide] at hg2
  have HF : Hid (udOf xs = ⟨getV (cutL xs 0 2) true, getV (cutL xs 2 4) true, cutL xs 8 (nU xs)⟩) := Lib.hid rfl
  have HL8 := Lib.hid (show ([] : List Int).length + (cutL xs 8 (nU xs)).length ≤ 140737488355328 by rw [cutL_length (by omega) (by omega)]; have := HMB.out; simp; omega)
  have HO8 := Lib.hid (HB.out.ok.cut 8 (nU xs))
  generalize getV (cutL xs 0 2) true = g0 at *
  generalize getV (cutL xs 2 4) true = g2 at *
  have Ew0 := Lib.hid (show IntKind.i64.wrap g0 = g0 from IntWalk.i64_in _ (by omega))
  have Ew2 := Lib.hid (show IntKind.i64.wrap g2 = g2 from IntWalk.i64_in _ (by omega))
  have HI := Lib.hid (show intI g0 ∧ intI g2 by unfold intI; omega)
  clear hg0 hg2
  have H6 := Lib.hid h6
  have H7 := Lib.hid h7
  clear hb hn h1 h2 h6 h7
  generalize nU xs = N at *
  generalize xs.getD 6 0 = y6 at *
  generalize xs.getD 7 0 = y7 at *
  go_enter Tryd.func10, Tryd.ntmps10
  go_upto_region 1 with fail
  have hR : Blk (w.alloc (.cells #[.int .i64 0, .int .i64 0, .slice none 0 0] 24)) w.heap.size #[.int .i64 0, .int .i64 0, .slice none 0 0] 24 := Blk.new _ _ _ _ rfl
  have G : Grew w (w.alloc (.cells #[.int .i64 0, .int .i64 0, .slice none 0 0] 24)) := (Grew.refl _).alloc _
  generalize (w.alloc (.cells #[.int .i64 0, .int .i64 0, .slice none 0 0] 24)) = w0 at *
  generalize hlR : w.heap.size = R at *
  have hwR : w.heap.size ≤ R := Nat.le_of_eq hlR
  go_wp2_with fail
  refine (HG4.out _ G).mono ?_
  rintro e w1 ⟨rfl, g1⟩
  have G1 := G.trans g1
  have hR1 := hR.grew g1
  go_upto_region 8 with fail
  clear ew4 r4
  have hst := (Grew.refl w1).drew1
  refine wp_region_held_drew (S := fun w' => Grew w1 w') (by kernel_rfl) (by exact hst) (fun hHeld => ?_)
  replace hHeld : Grew w1 w1.drew := hHeld
  generalize w1.drew = wq41 at *
  refine wpAnyH_take (i := 0) (v := ?_) rfl (by kernel_rfl) (by kernel_rfl) (by kernel_rfl) (fun _ _ _ h => h) (Or.inl ⟨by rfl, ?_⟩) hHeld ?_
  rotate_left
  · intro wq hSw
    replace hSw : Grew w1 wq := hSw
    go_simp
    try with_reducible rfl
  try simp only [List.getElem_toArray, List.getElem_cons_succ, List.getElem_cons_zero, Act.put, List.setIfInBounds_toArray, List.set_cons_zero, List.set_cons_succ]
  refine wpAnyH_take (i := 1) (v := ?_) rfl (by kernel_rfl) (by kernel_rfl) (by kernel_rfl) (fun _ _ _ h => h) (Or.inl ⟨by rfl, ?_⟩) hHeld ?_
  rotate_left
  · intro wq hSw
    replace hSw : Grew w1 wq := hSw
    have k6' := k6
    go_simp
    try with_reducible rfl
  try simp only [List.getElem_toArray, List.getElem_cons_succ, List.getElem_cons_zero, Act.put, List.setIfInBounds_toArray, List.set_cons_zero, List.set_cons_succ]
  refine wpAnyH_take (i := 2) (v := ?_) rfl (by kernel_rfl) (by kernel_rfl) (by kernel_rfl) (fun _ _ _ h => h) (Or.inl ⟨by rfl, ?_⟩) hHeld ?_
  rotate_left
  · intro wq hSw
    replace hSw : Grew w1 wq := hSw
    have z6 : wq.cell? ⟨bk, off + 6, none⟩ = some (.int .u8 y6) := by rw [(gcell (G1.trans hSw)).1 bk _ (by rw [hlR]; exact HBL.out)]; exact HC6.out
    go_simp
    try with_reducible rfl
  try simp only [List.getElem_toArray, List.getElem_cons_succ, List.getElem_cons_zero, Act.put, List.setIfInBounds_toArray, List.set_cons_zero, List.set_cons_succ]
  refine wpAnyH_take (i := 3) (v := ?_) rfl (by kernel_rfl) (by kernel_rfl) (by kernel_rfl) (fun _ _ _ h => h) (Or.inl ⟨by rfl, ?_⟩) hHeld ?_
  rotate_left
  · intro wq hSw
    replace hSw : Grew w1 wq := hSw
    have h6 := H6.out
    go_simp
    try with_reducible rfl
  try simp only [List.getElem_toArray, List.getElem_cons_succ, List.getElem_cons_zero, Act.put, List.setIfInBounds_toArray, List.set_cons_zero, List.set_cons_succ]
  refine wpAnyH_take (i := 4) (v := ?_) rfl (by kernel_rfl) (by kernel_rfl) (by kernel_rfl) (fun _ _ _ h => h) (Or.inl ⟨by rfl, ?_⟩) hHeld ?_
  rotate_left
  · intro wq hSw
    replace hSw : Grew w1 wq := hSw
    go_simp
    try with_reducible rfl
  try simp only [List.getElem_toArray, List.getElem_cons_succ, List.getElem_cons_zero, Act.put, List.setIfInBounds_toArray, List.set_cons_zero, List.set_cons_succ]
  refine wpAnyH_take (i := 5) (v := ?_) rfl (by kernel_rfl) (by kernel_rfl) (by kernel_rfl) (fun _ _ _ h => h) (Or.inl ⟨by rfl, ?_⟩) hHeld ?_
  rotate_left
  · intro wq hSw
    replace hSw : Grew w1 wq := hSw
    go_simp
    try with_reducible rfl
  try simp only [List.getElem_toArray, List.getElem_cons_succ, List.getElem_cons_zero, Act.put, List.setIfInBounds_toArray, List.set_cons_zero, List.set_cons_succ]
  refine wpAnyH_take (i := 6) (v := ?_) rfl (by kernel_rfl) (by kernel_rfl) (by kernel_rfl) (fun _ _ _ h => h) (Or.inl ⟨by rfl, ?_⟩) hHeld ?_
  rotate_left
  · intro wq hSw
    replace hSw : Grew w1 wq := hSw
    go_simp
    try with_reducible rfl
  try simp only [List.getElem_toArray, List.getElem_cons_succ, List.getElem_cons_zero, Act.put, List.setIfInBounds_toArray, List.set_cons_zero, List.set_cons_succ]
  refine wpAnyH_take (i := 7) (v := ?_) rfl (by kernel_rfl) (by kernel_rfl) (by kernel_rfl) (fun _ _ _ h => h) (Or.inl ⟨by rfl, ?_⟩) hHeld ?_
  rotate_left
  · intro wq hSw
    replace hSw : Grew w1 wq := hSw
    have z7 : wq.cell? ⟨bk, off + 7, none⟩ = some (.int .u8 y7) := by rw [(gcell (G1.trans hSw)).1 bk _ (by rw [hlR]; exact HBL.out)]; exact HC7.out
    go_simp
    try with_reducible rfl
  try simp only [List.getElem_toArray, List.getElem_cons_succ, List.getElem_cons_zero, Act.put, List.setIfInBounds_toArray, List.set_cons_zero, List.set_cons_succ]
  refine wpAnyH_take (i := 8) (v := ?_) rfl (by kernel_rfl) (by kernel_rfl) (by kernel_rfl) (fun _ _ _ h => h) (Or.inl ⟨by rfl, ?_⟩) hHeld ?_
  rotate_left
  · intro wq hSw
    replace hSw : Grew w1 wq := hSw
    have h7 := H7.out
    go_simp
    try with_reducible rfl
  try simp only [List.getElem_toArray, List.getElem_cons_succ, List.getElem_cons_zero, Act.put, List.setIfInBounds_toArray, List.set_cons_zero, List.set_cons_succ]
  refine wpAnyH_take (i := 9) (v := ?_) rfl (by kernel_rfl) (by kernel_rfl) (by kernel_rfl) (fun _ _ _ h => h) (Or.inl ⟨by rfl, ?_⟩) hHeld ?_
  rotate_left
  · intro wq hSw
    replace hSw : Grew w1 wq := hSw
    go_simp
    try with_reducible rfl
  try simp only [List.getElem_toArray, List.getElem_cons_succ, List.getElem_cons_zero, Act.put, List.setIfInBounds_toArray, List.set_cons_zero, List.set_cons_succ]
  refine wpAnyH_take (i := 10) (v := ?_) rfl (by kernel_rfl) (by kernel_rfl) (by kernel_rfl) (fun _ _ _ h => h) (Or.inl ⟨by rfl, ?_⟩) hHeld ?_
  rotate_left
  · intro wq hSw
    replace hSw : Grew w1 wq := hSw
    go_simp
    try with_reducible rfl
  try simp only [List.getElem_toArray, List.getElem_cons_succ, List.getElem_cons_zero, Act.put, List.setIfInBounds_toArray, List.set_cons_zero, List.set_cons_succ]
  refine wpAnyH_take (i := 11) (v := undef) rfl (by kernel_rfl) (by kernel_rfl) (by kernel_rfl) (fun _ _ _ h => h) (Or.inr ⟨by rfl, rfl⟩) hHeld ?_
  try simp only [List.getElem_toArray, List.getElem_cons_succ, List.getElem_cons_zero, Act.put, List.setIfInBounds_toArray, List.set_cons_zero, List.set_cons_succ]
  refine wpAnyH_take (i := 12) (v := undef) rfl (by kernel_rfl) (by kernel_rfl) (by kernel_rfl) (fun _ _ _ h => h) (Or.inr ⟨by rfl, rfl⟩) hHeld ?_
  try simp only [List.getElem_toArray, List.getElem_cons_succ, List.getElem_cons_zero, Act.put, List.setIfInBounds_toArray, List.set_cons_zero, List.set_cons_succ]
  refine wpAnyH_take (i := 13) (v := undef) rfl (by kernel_rfl) (by kernel_rfl) (by kernel_rfl) (fun _ _ _ h => h) (Or.inr ⟨by rfl, rfl⟩) hHeld ?_
  try simp only [List.getElem_toArray, List.getElem_cons_succ, List.getElem_cons_zero, Act.put, List.setIfInBounds_toArray, List.set_cons_zero, List.set_cons_succ]
  refine wpAnyH_take (i := 14) (v := undef) rfl (by kernel_rfl) (by kernel_rfl) (by kernel_rfl) (fun _ _ _ h => h) (Or.inr ⟨by rfl, rfl⟩) hHeld ?_
  try simp only [List.getElem_toArray, List.getElem_cons_succ, List.getElem_cons_zero, Act.put, List.setIfInBounds_toArray, List.set_cons_zero, List.set_cons_succ]
  refine wpAnyH_take (i := 15) (v := undef) rfl (by kernel_rfl) (by kernel_rfl) (by kernel_rfl) (fun _ _ _ h => h) (Or.inr ⟨by rfl, rfl⟩) hHeld ?_
  try simp only [List.getElem_toArray, List.getElem_cons_succ, List.getElem_cons_zero, Act.put, List.setIfInBounds_toArray, List.set_cons_zero, List.set_cons_succ]
  refine wpAnyH_take (i := 16) (v := undef) rfl (by kernel_rfl) (by kernel_rfl) (by kernel_rfl) (fun _ _ _ h => h) (Or.inr ⟨by rfl, rfl⟩) hHeld ?_
  try simp only [List.getElem_toArray, List.getElem_cons_succ, List.getElem_cons_zero, Act.put, List.setIfInBounds_toArray, List.set_cons_zero, List.set_cons_succ]
  refine wpAnyH_take (i := 17) (v := undef) rfl (by kernel_rfl) (by kernel_rfl) (by kernel_rfl) (fun _ _ _ h => h) (Or.inr ⟨by rfl, rfl⟩) hHeld ?_
  try simp only [List.getElem_toArray, List.getElem_cons_succ, List.getElem_cons_zero, Act.put, List.setIfInBounds_toArray, List.set_cons_zero, List.set_cons_succ]
  refine wpAnyH_take (i := 18) (v := undef) rfl (by kernel_rfl) (by kernel_rfl) (by kernel_rfl) (fun _ _ _ h => h) (Or.inr ⟨by rfl, rfl⟩) hHeld ?_
  try simp only [List.getElem_toArray, List.getElem_cons_succ, List.getElem_cons_zero, Act.put, List.setIfInBounds_toArray, List.set_cons_zero, List.set_cons_succ]
  refine wpAnyH_take (i := 19) (v := undef) rfl (by kernel_rfl) (by kernel_rfl) (by kernel_rfl) (fun _ _ _ h => h) (Or.inr ⟨by rfl, rfl⟩) hHeld ?_
  try simp only [List.getElem_toArray, List.getElem_cons_succ, List.getElem_cons_zero, Act.put, List.setIfInBounds_toArray, List.set_cons_zero, List.set_cons_succ]
  refine wpAnyH_take (i := 20) (v := undef) rfl (by kernel_rfl) (by kernel_rfl) (by kernel_rfl) (fun _ _ _ h => h) (Or.inr ⟨by rfl, rfl⟩) hHeld ?_
  try simp only [List.getElem_toArray, List.getElem_cons_succ, List.getElem_cons_zero, Act.put, List.setIfInBounds_toArray, List.set_cons_zero, List.set_cons_succ]
  refine wpAnyH_take (i := 21) (v := ?_) rfl (by kernel_rfl) (by kernel_rfl) (by kernel_rfl) (fun _ _ _ h => h) (Or.inl ⟨by rfl, ?_⟩) hHeld ?_
  rotate_left
  · intro wq hSw
    replace hSw : Grew w1 wq := hSw
    go_simp
    try with_reducible rfl
  try simp only [List.getElem_toArray, List.getElem_cons_succ, List.getElem_cons_zero, Act.put, List.setIfInBounds_toArray, List.set_cons_zero, List.set_cons_succ]
  refine wpAnyH_done (by kernel_rfl) ?_ _
  try simp only [List.getElem_toArray, List.getElem_cons_succ, List.getElem_cons_zero, Act.put, List.setIfInBounds_toArray, List.set_cons_zero, List.set_cons_succ]
  have G2 := G1.trans hHeld
  have hR2 := hR1.grew hHeld
  clear hHeld hR1 hR G g1
  have HRR := Lib.hid hR2
  clear hR2
  go_upto_region 10 with fail
  replace HRR := Lib.hid (HRR.out.grew ((Grew.refl wq41).drew1))
  have hst := G2.drew1
  refine wp_region_held_drew (S := fun w' => Grew w w') (by kernel_rfl) (by exact hst) (fun hHeld => ?_)
  replace hHeld : Grew w wq41.drew := hHeld
  generalize wq41.drew = wq42 at *
  refine wpAnyH_take (i := 0) (v := ?_) rfl (by kernel_rfl) (by kernel_rfl) (by kernel_rfl) (fun _ _ _ h => h) (Or.inl ⟨by rfl, ?_⟩) hHeld ?_
  rotate_left
  · intro wq hSw
    replace hSw : Grew w wq := hSw
    go_simp
    try with_reducible rfl
  try simp only [List.getElem_toArray, List.getElem_cons_succ, List.getElem_cons_zero, Act.put, List.setIfInBounds_toArray, List.set_cons_zero, List.set_cons_succ]
  refine wpAnyH_take (i := 1) (v := ?_) rfl (by kernel_rfl) (by kernel_rfl) (by kernel_rfl) (fun _ _ _ h => h) (Or.inl ⟨by rfl, ?_⟩) hHeld ?_
  rotate_left
  · intro wq hSw
    replace hSw : Grew w wq := hSw
    have r := HR0.out
    go_simp
    try with_reducible rfl
  try simp only [List.getElem_toArray, List.getElem_cons_succ, List.getElem_cons_zero, Act.put, List.setIfInBounds_toArray, List.set_cons_zero, List.set_cons_succ]
  refine wpAnyH_take (i := 4) (v := ?_) rfl (by kernel_rfl) (by kernel_rfl) (by kernel_rfl) (fun _ _ _ h => h) (Or.inl ⟨by rfl, ?_⟩) hHeld ?_
  rotate_left
  · intro wq hSw
    replace hSw : Grew w wq := hSw
    go_simp
    try with_reducible rfl
  try simp only [List.getElem_toArray, List.getElem_cons_succ, List.getElem_cons_zero, Act.put, List.setIfInBounds_toArray, List.set_cons_zero, List.set_cons_succ]
  refine wpAnyH_take (i := 5) (v := ?_) rfl (by kernel_rfl) (by kernel_rfl) (by kernel_rfl) (fun _ _ _ h => h) (Or.inl ⟨by rfl, ?_⟩) hHeld ?_
  rotate_left
  · intro wq hSw
    replace hSw : Grew w wq := hSw
    have r := HR2.out
    go_simp
    try with_reducible rfl
  try simp only [List.getElem_toArray, List.getElem_cons_succ, List.getElem_cons_zero, Act.put, List.setIfInBounds_toArray, List.set_cons_zero, List.set_cons_succ]
  refine wpAnyH_take (i := 9) (v := ?_) rfl (by kernel_rfl) (by kernel_rfl) (by kernel_rfl) (fun _ _ _ h => h) (Or.inl ⟨by rfl, ?_⟩) hHeld ?_
  rotate_left
  · intro wq hSw
    replace hSw : Grew w wq := hSw
    go_simp
    try with_reducible rfl
  try simp only [List.getElem_toArray, List.getElem_cons_succ, List.getElem_cons_zero, Act.put, List.setIfInBounds_toArray, List.set_cons_zero, List.set_cons_succ]
  refine wpAnyH_take (i := 10) (v := ?_) rfl (by kernel_rfl) (by kernel_rfl) (by kernel_rfl) (fun _ _ _ h => h) (Or.inl ⟨by rfl, ?_⟩) hHeld ?_
  rotate_left
  · intro wq hSw
    replace hSw : Grew w wq := hSw
    go_simp
    try with_reducible rfl
  try simp only [List.getElem_toArray, List.getElem_cons_succ, List.getElem_cons_zero, Act.put, List.setIfInBounds_toArray, List.set_cons_zero, List.set_cons_succ]
  refine wpAnyH_take (i := 11) (v := ?_) rfl (by kernel_rfl) (by kernel_rfl) (by kernel_rfl) (fun _ _ _ h => h) (Or.inl ⟨by rfl, ?_⟩) hHeld ?_
  rotate_left
  · intro wq hSw
    replace hSw : Grew w wq := hSw
    have r := HR8.out
    go_simp
    try with_reducible rfl
  try simp only [List.getElem_toArray, List.getElem_cons_succ, List.getElem_cons_zero, Act.put, List.setIfInBounds_toArray, List.set_cons_zero, List.set_cons_succ]
  refine wpAnyH_ready (rs := [2, 8]) (by kernel_rfl) (by simp) ?_
  refine AllReadyH.cons rfl (fun K hK => ?_) (AllReadyH.cons rfl (fun K hK => ?_) AllReadyH.nil)
  · go_simp
    refine (HG0.out _ hHeld).mono ?_
    rintro e wk43 ⟨rfl, gk43⟩
    replace HRR := Lib.hid (HRR.out.grew gk43)
    refine hK.out _ _ (hHeld.trans gk43) (fun hHeld => ?_)
    clear hK K
    try simp only [List.getElem_toArray, List.getElem_cons_succ, List.getElem_cons_zero, Act.put, List.setIfInBounds_toArray, List.set_cons_zero, List.set_cons_succ]
    refine wpAnyH_take (i := 3) (v := ?_) rfl (by kernel_rfl) (by kernel_rfl) (by kernel_rfl) (fun _ _ _ h => h) (Or.inl ⟨by rfl, ?_⟩) hHeld ?_
    rotate_left
    · intro wq hSw
      replace hSw : Grew w wq := hSw
      have ew := Ew0.out
      go_simp
      try with_reducible rfl
    try simp only [List.getElem_toArray, List.getElem_cons_succ, List.getElem_cons_zero, Act.put, List.setIfInBounds_toArray, List.set_cons_zero, List.set_cons_succ]
    refine wpAnyH_ready (rs := [6, 8]) (by kernel_rfl) (by simp) ?_
    refine AllReadyH.cons rfl (fun K hK => ?_) (AllReadyH.cons rfl (fun K hK => ?_) AllReadyH.nil)
    · go_simp
      refine (HG2.out _ hHeld).mono ?_
      rintro e wk44 ⟨rfl, gk44⟩
      replace HRR := Lib.hid (HRR.out.grew gk44)
      refine hK.out _ _ (hHeld.trans gk44) (fun hHeld => ?_)
      clear hK K
      try simp only [List.getElem_toArray, List.getElem_cons_succ, List.getElem_cons_zero, Act.put, List.setIfInBounds_toArray, List.set_cons_zero, List.set_cons_succ]
      refine wpAnyH_take (i := 7) (v := ?_) rfl (by kernel_rfl) (by kernel_rfl) (by kernel_rfl) (fun _ _ _ h => h) (Or.inl ⟨by rfl, ?_⟩) hHeld ?_
      rotate_left
      · intro wq hSw
        replace hSw : Grew w wq := hSw
        have ew := Ew2.out
        go_simp
        try with_reducible rfl
      try simp only [List.getElem_toArray, List.getElem_cons_succ, List.getElem_cons_zero, Act.put, List.setIfInBounds_toArray, List.set_cons_zero, List.set_cons_succ]
      refine wpAnyH_ready (rs := [8]) (by kernel_rfl) (by simp) ?_
      refine AllReadyH.cons rfl (fun K hK => ?_) AllReadyH.nil
      go_simp
      have lo := hHeld.size
      have hRQ := HRR.out.lt
      have R0 : Row (wk44.alloc (.cells #[] 5)) wk44.heap.size (.slice (some ⟨wk44.heap.size, 0, none⟩) 0 0) [] := Row.lit wk44 wk44.heap.size (Nat.le_refl _) #[] [] rfl (by unfold maxLen; simp) _ rfl 0 rfl
      replace R0 := Lib.hid (R0.low lo)
      have gk45 : Grew wk44 (wk44.alloc (.cells #[] 5)) := (Grew.refl _).alloc _
      replace HRR := Lib.hid (HRR.out.grew gk45)
      generalize (wk44.alloc (.cells #[] 5)) = wk45 at *
      generalize wk44.heap.size = Q0 at *
      refine hK.out _ _ (hHeld.trans gk45) (fun hHeld => ?_)
      clear hK K
      try simp only [List.getElem_toArray, List.getElem_cons_succ, List.getElem_cons_zero, Act.put, List.setIfInBounds_toArray, List.set_cons_zero, List.set_cons_succ]
      refine wpAnyH_ready (rs := [12]) (by kernel_rfl) (by simp) ?_
      refine AllReadyH.cons rfl (fun K hK => ?_) AllReadyH.nil
      refine step_append_off (by rfl) (.tmp 56) (.tmp 59) rfl hHeld R0.out (H8.out.grew hHeld) (by rfl) (by rfl) HL8.out ?_
      intro v12 wk46 R12 gk46 KO gb
      have hb12 := R12.out.buf HO8.out
      obtain ⟨p12, k12, rfl, z1, z2⟩ := hb12.shape
      have H12 := Lib.hid hb12
      replace HRR := Lib.hid (HRR.out.grownBy gb (by simp only [Value.ownBlock, ne_eq, Option.some.injEq]; omega))
      clear z1 z2 hb12 R12 KO gb
      refine hK.out _ _ (gk46) (fun hHeld => ?_)
      clear hK K
      try simp only [List.getElem_toArray, List.getElem_cons_succ, List.getElem_cons_zero, Act.put, List.setIfInBounds_toArray, List.set_cons_zero, List.set_cons_succ]
      refine wpAnyH_take (i := 13) (v := ?_) rfl (by kernel_rfl) (by kernel_rfl) (by kernel_rfl) (fun _ _ _ h => h) (Or.inl ⟨by rfl, ?_⟩) hHeld ?_
      rotate_left
      · intro wq hSw
        replace hSw : Grew w wq := hSw
        go_simp
        try with_reducible rfl
      try simp only [List.getElem_toArray, List.getElem_cons_succ, List.getElem_cons_zero, Act.put, List.setIfInBounds_toArray, List.set_cons_zero, List.set_cons_succ]
      refine wpAnyH_ready (rs := [14]) (by kernel_rfl) (by simp) ?_
      refine AllReadyH.cons rfl (fun K hK => ?_) AllReadyH.nil
      have hRk := HRR.out
      have x0 := hRk.cell 0
      have x1 := hRk.cell 1
      have x2 := hRk.cell 2
      have q0 := hRk.free 0
      have q1 := hRk.free 1
      have q2 := hRk.free 2
      go_simp
      have EB := Lib.hid (((hRk.set (o := 0) (.int .i64 g0)).set (o := 1) (.int .i64 g2)).set (o := 2) (.slice p12 (cutL xs 8 N).length k12))
      have KK := (((BufsKept.box (o := 0) hRk (by simp [noU8]) (.int .i64 g0)).trans (BufsKept.box (o := 1) (hRk.set (o := 0) (.int .i64 g0)) (by simp [noU8]) (.int .i64 g2))).trans (BufsKept.box (o := 2) ((hRk.set (o := 0) (.int .i64 g0)).set (o := 1) (.int .i64 g2)) (by simp [noU8]) (.slice p12 (cutL xs 8 N).length k12)))
      have GE := (((hHeld.setCell (b := R) (o := 0) (hwR) (.int .i64 g0)).setCell (b := R) (o := 1) (hwR) (.int .i64 g2)).setCell (b := R) (o := 2) (hwR) (.slice p12 (cutL xs 8 N).length k12))
      have H13 := Lib.hid (KK _ _ H12.out)
      refine hK.out _ _ (GE) (fun hHeld => ?_)
      clear hK K
      try simp only [List.getElem_toArray, List.getElem_cons_succ, List.getElem_cons_zero, Act.put, List.setIfInBounds_toArray, List.set_cons_zero, List.set_cons_succ]
      refine wpAnyH_take (i := 15) (v := ?_) rfl (by kernel_rfl) (by kernel_rfl) (by kernel_rfl) (fun _ _ _ h => h) (Or.inl ⟨by rfl, ?_⟩) hHeld ?_
      rotate_left
      · intro wq hSw
        replace hSw : Grew w wq := hSw
        go_simp
        try with_reducible rfl
      try simp only [List.getElem_toArray, List.getElem_cons_succ, List.getElem_cons_zero, Act.put, List.setIfInBounds_toArray, List.set_cons_zero, List.set_cons_succ]
      refine wpAnyH_done (by kernel_rfl) ?_ _
      try simp only [List.getElem_toArray, List.getElem_cons_succ, List.getElem_cons_zero, Act.put, List.setIfInBounds_toArray, List.set_cons_zero, List.set_cons_succ]
      have EV := EB.out
      have z0 := EV.cell 0
      have z1 := EV.cell 1
      have z2 := EV.cell 2
      go_wp2_with fail
      rw [HF.out]
      exact bodyPost_ret (v := .tuple #[.agg #[.int .i64 g0, .int .i64 g2, .slice p12 (cutL xs 8 N).length k12], .int .i64 0]) (by simp [results, Tryd.results10, go_sem, z0, z1, z2]) rfl ⟨_, rfl, Ud.of H13.out HI.out.1 HI.out.2, hHeld⟩
    · go_simp
      have lo := hHeld.size
      have hRQ := HRR.out.lt
      have R0 : Row (wk43.alloc (.cells #[] 5)) wk43.heap.size (.slice (some ⟨wk43.heap.size, 0, none⟩) 0 0) [] := Row.lit wk43 wk43.heap.size (Nat.le_refl _) #[] [] rfl (by unfold maxLen; simp) _ rfl 0 rfl
      replace R0 := Lib.hid (R0.low lo)
      have gk47 : Grew wk43 (wk43.alloc (.cells #[] 5)) := (Grew.refl _).alloc _
      replace HRR := Lib.hid (HRR.out.grew gk47)
      generalize (wk43.alloc (.cells #[] 5)) = wk47 at *
      generalize wk43.heap.size = Q0 at *
      refine hK.out _ _ (hHeld.trans gk47) (fun hHeld => ?_)
      clear hK K
      try simp only [List.getElem_toArray, List.getElem_cons_succ, List.getElem_cons_zero, Act.put, List.setIfInBounds_toArray, List.set_cons_zero, List.set_cons_succ]
      refine wpAnyH_ready (rs := [6]) (by kernel_rfl) (by simp) ?_
      refine AllReadyH.cons rfl (fun K hK => ?_) AllReadyH.nil
      go_simp
      refine (HG2.out _ hHeld).mono ?_
      rintro e wk48 ⟨rfl, gk48⟩
      replace HRR := Lib.hid (HRR.out.grew gk48)
      replace R0 := Lib.hid (R0.out.grew gk48)
      refine hK.out _ _ (hHeld.trans gk48) (fun hHeld => ?_)
      clear hK K
      try simp only [List.getElem_toArray, List.getElem_cons_succ, List.getElem_cons_zero, Act.put, List.setIfInBounds_toArray, List.set_cons_zero, List.set_cons_succ]
      refine wpAnyH_take (i := 7) (v := ?_) rfl (by kernel_rfl) (by kernel_rfl) (by kernel_rfl) (fun _ _ _ h => h) (Or.inl ⟨by rfl, ?_⟩) hHeld ?_
      rotate_left
      · intro wq hSw
        replace hSw : Grew w wq := hSw
        have ew := Ew2.out
        go_simp
        try with_reducible rfl
      try simp only [List.getElem_toArray, List.getElem_cons_succ, List.getElem_cons_zero, Act.put, List.setIfInBounds_toArray, List.set_cons_zero, List.set_cons_succ]
      refine wpAnyH_ready (rs := [12]) (by kernel_rfl) (by simp) ?_
      refine AllReadyH.cons rfl (fun K hK => ?_) AllReadyH.nil
      refine step_append_off (by rfl) (.tmp 56) (.tmp 59) rfl hHeld R0.out (H8.out.grew hHeld) (by rfl) (by rfl) HL8.out ?_
      intro v12 wk49 R12 gk49 KO gb
      have hb12 := R12.out.buf HO8.out
      obtain ⟨p12, k12, rfl, z1, z2⟩ := hb12.shape
      have H12 := Lib.hid hb12
      replace HRR := Lib.hid (HRR.out.grownBy gb (by simp only [Value.ownBlock, ne_eq, Option.some.injEq]; omega))
      clear z1 z2 hb12 R12 KO gb
      refine hK.out _ _ (gk49) (fun hHeld => ?_)
      clear hK K
      try simp only [List.getElem_toArray, List.getElem_cons_succ, List.getElem_cons_zero, Act.put, List.setIfInBounds_toArray, List.set_cons_zero, List.set_cons_succ]
      refine wpAnyH_take (i := 13) (v := ?_) rfl (by kernel_rfl) (by kernel_rfl) (by kernel_rfl) (fun _ _ _ h => h) (Or.inl ⟨by rfl, ?_⟩) hHeld ?_
      rotate_left
      · intro wq hSw
        replace hSw : Grew w wq := hSw
        go_simp
        try with_reducible rfl
      try simp only [List.getElem_toArray, List.getElem_cons_succ, List.getElem_cons_zero, Act.put, List.setIfInBounds_toArray, List.set_cons_zero, List.set_cons_succ]
      refine wpAnyH_ready (rs := [14]) (by kernel_rfl) (by simp) ?_
      refine AllReadyH.cons rfl (fun K hK => ?_) AllReadyH.nil
      have hRk := HRR.out
      have x0 := hRk.cell 0
      have x1 := hRk.cell 1
      have x2 := hRk.cell 2
      have q0 := hRk.free 0
      have q1 := hRk.free 1
      have q2 := hRk.free 2
      go_simp
      have EB := Lib.hid (((hRk.set (o := 0) (.int .i64 g0)).set (o := 1) (.int .i64 g2)).set (o := 2) (.slice p12 (cutL xs 8 N).length k12))
      have KK := (((BufsKept.box (o := 0) hRk (by simp [noU8]) (.int .i64 g0)).trans (BufsKept.box (o := 1) (hRk.set (o := 0) (.int .i64 g0)) (by simp [noU8]) (.int .i64 g2))).trans (BufsKept.box (o := 2) ((hRk.set (o := 0) (.int .i64 g0)).set (o := 1) (.int .i64 g2)) (by simp [noU8]) (.slice p12 (cutL xs 8 N).length k12)))
      have GE := (((hHeld.setCell (b := R) (o := 0) (hwR) (.int .i64 g0)).setCell (b := R) (o := 1) (hwR) (.int .i64 g2)).setCell (b := R) (o := 2) (hwR) (.slice p12 (cutL xs 8 N).length k12))
      have H13 := Lib.hid (KK _ _ H12.out)
      refine hK.out _ _ (GE) (fun hHeld => ?_)
      clear hK K
      try simp only [List.getElem_toArray, List.getElem_cons_succ, List.getElem_cons_zero, Act.put, List.setIfInBounds_toArray, List.set_cons_zero, List.set_cons_succ]
      refine wpAnyH_take (i := 15) (v := ?_) rfl (by kernel_rfl) (by kernel_rfl) (by kernel_rfl) (fun _ _ _ h => h) (Or.inl ⟨by rfl, ?_⟩) hHeld ?_
      rotate_left
      · intro wq hSw
        replace hSw : Grew w wq := hSw
        go_simp
        try with_reducible rfl
      try simp only [List.getElem_toArray, List.getElem_cons_succ, List.getElem_cons_zero, Act.put, List.setIfInBounds_toArray, List.set_cons_zero, List.set_cons_succ]
      refine wpAnyH_done (by kernel_rfl) ?_ _
      try simp only [List.getElem_toArray, List.getElem_cons_succ, List.getElem_cons_zero, Act.put, List.setIfInBounds_toArray, List.set_cons_zero, List.set_cons_succ]
      have EV := EB.out
      have z0 := EV.cell 0
      have z1 := EV.cell 1
      have z2 := EV.cell 2
      go_wp2_with fail
      rw [HF.out]
      exact bodyPost_ret (v := .tuple #[.agg #[.int .i64 g0, .int .i64 g2, .slice p12 (cutL xs 8 N).length k12], .int .i64 0]) (by simp [results, Tryd.results10, go_sem, z0, z1, z2]) rfl ⟨_, rfl, Ud.of H13.out HI.out.1 HI.out.2, hHeld⟩
  · go_simp
    have lo := hHeld.size
    have hRQ := HRR.out.lt
    have R0 : Row (wq42.alloc (.cells #[] 5)) wq42.heap.size (.slice (some ⟨wq42.heap.size, 0, none⟩) 0 0) [] := Row.lit wq42 wq42.heap.size (Nat.le_refl _) #[] [] rfl (by unfold maxLen; simp) _ rfl 0 rfl
    replace R0 := Lib.hid (R0.low lo)
    have gk50 : Grew wq42 (wq42.alloc (.cells #[] 5)) := (Grew.refl _).alloc _
    replace HRR := Lib.hid (HRR.out.grew gk50)
    generalize (wq42.alloc (.cells #[] 5)) = wk50 at *
    generalize wq42.heap.size = Q0 at *
    refine hK.out _ _ (hHeld.trans gk50) (fun hHeld => ?_)
    clear hK K
    try simp only [List.getElem_toArray, List.getElem_cons_succ, List.getElem_cons_zero, Act.put, List.setIfInBounds_toArray, List.set_cons_zero, List.set_cons_succ]
    refine wpAnyH_ready (rs := [2]) (by kernel_rfl) (by simp) ?_
    refine AllReadyH.cons rfl (fun K hK => ?_) AllReadyH.nil
    go_simp
    refine (HG0.out _ hHeld).mono ?_
    rintro e wk51 ⟨rfl, gk51⟩
    replace HRR := Lib.hid (HRR.out.grew gk51)
    replace R0 := Lib.hid (R0.out.grew gk51)
    refine hK.out _ _ (hHeld.trans gk51) (fun hHeld => ?_)
    clear hK K
    try simp only [List.getElem_toArray, List.getElem_cons_succ, List.getElem_cons_zero, Act.put, List.setIfInBounds_toArray, List.set_cons_zero, List.set_cons_succ]
    refine wpAnyH_take (i := 3) (v := ?_) rfl (by kernel_rfl) (by kernel_rfl) (by kernel_rfl) (fun _ _ _ h => h) (Or.inl ⟨by rfl, ?_⟩) hHeld ?_
    rotate_left
    · intro wq hSw
      replace hSw : Grew w wq := hSw
      have ew := Ew0.out
      go_simp
      try with_reducible rfl
    try simp only [List.getElem_toArray, List.getElem_cons_succ, List.getElem_cons_zero, Act.put, List.setIfInBounds_toArray, List.set_cons_zero, List.set_cons_succ]
    refine wpAnyH_ready (rs := [6]) (by kernel_rfl) (by simp) ?_
    refine AllReadyH.cons rfl (fun K hK => ?_) AllReadyH.nil
    go_simp
    refine (HG2.out _ hHeld).mono ?_
    rintro e wk52 ⟨rfl, gk52⟩
    replace HRR := Lib.hid (HRR.out.grew gk52)
    replace R0 := Lib.hid (R0.out.grew gk52)
    refine hK.out _ _ (hHeld.trans gk52) (fun hHeld => ?_)
    clear hK K
    try simp only [List.getElem_toArray, List.getElem_cons_succ, List.getElem_cons_zero, Act.put, List.setIfInBounds_toArray, List.set_cons_zero, List.set_cons_succ]
    refine wpAnyH_take (i := 7) (v := ?_) rfl (by kernel_rfl) (by kernel_rfl) (by kernel_rfl) (fun _ _ _ h => h) (Or.inl ⟨by rfl, ?_⟩) hHeld ?_
    rotate_left
    · intro wq hSw
      replace hSw : Grew w wq := hSw
      have ew := Ew2.out
      go_simp
      try with_reducible rfl
    try simp only [List.getElem_toArray, List.getElem_cons_succ, List.getElem_cons_zero, Act.put, List.setIfInBounds_toArray, List.set_cons_zero, List.set_cons_succ]
    refine wpAnyH_ready (rs := [12]) (by kernel_rfl) (by simp) ?_
    refine AllReadyH.cons rfl (fun K hK => ?_) AllReadyH.nil
    refine step_append_off (by rfl) (.tmp 56) (.tmp 59) rfl hHeld R0.out (H8.out.grew hHeld) (by rfl) (by rfl) HL8.out ?_
    intro v12 wk53 R12 gk53 KO gb
    have hb12 := R12.out.buf HO8.out
    obtain ⟨p12, k12, rfl, z1, z2⟩ := hb12.shape
    have H12 := Lib.hid hb12
    replace HRR := Lib.hid (HRR.out.grownBy gb (by simp only [Value.ownBlock, ne_eq, Option.some.injEq]; omega))
    clear z1 z2 hb12 R12 KO gb
    refine hK.out _ _ (gk53) (fun hHeld => ?_)
    clear hK K
    try simp only [List.getElem_toArray, List.getElem_cons_succ, List.getElem_cons_zero, Act.put, List.setIfInBounds_toArray, List.set_cons_zero, List.set_cons_succ]
    refine wpAnyH_take (i := 13) (v := ?_) rfl (by kernel_rfl) (by kernel_rfl) (by kernel_rfl) (fun _ _ _ h => h) (Or.inl ⟨by rfl, ?_⟩) hHeld ?_
    rotate_left
    · intro wq hSw
      replace hSw : Grew w wq := hSw
      go_simp
      try with_reducible rfl
    try simp only [List.getElem_toArray, List.getElem_cons_succ, List.getElem_cons_zero, Act.put, List.setIfInBounds_toArray, List.set_cons_zero, List.set_cons_succ]
    refine wpAnyH_ready (rs := [14]) (by kernel_rfl) (by simp) ?_
    refine AllReadyH.cons rfl (fun K hK => ?_) AllReadyH.nil
    have hRk := HRR.out
    have x0 := hRk.cell 0
    have x1 := hRk.cell 1
    have x2 := hRk.cell 2
    have q0 := hRk.free 0
    have q1 := hRk.free 1
    have q2 := hRk.free 2
    go_simp
    have EB := Lib.hid (((hRk.set (o := 0) (.int .i64 g0)).set (o := 1) (.int .i64 g2)).set (o := 2) (.slice p12 (cutL xs 8 N).length k12))
    have KK := (((BufsKept.box (o := 0) hRk (by simp [noU8]) (.int .i64 g0)).trans (BufsKept.box (o := 1) (hRk.set (o := 0) (.int .i64 g0)) (by simp [noU8]) (.int .i64 g2))).trans (BufsKept.box (o := 2) ((hRk.set (o := 0) (.int .i64 g0)).set (o := 1) (.int .i64 g2)) (by simp [noU8]) (.slice p12 (cutL xs 8 N).length k12)))
    have GE := (((hHeld.setCell (b := R) (o := 0) (hwR) (.int .i64 g0)).setCell (b := R) (o := 1) (hwR) (.int .i64 g2)).setCell (b := R) (o := 2) (hwR) (.slice p12 (cutL xs 8 N).length k12))
    have H13 := Lib.hid (KK _ _ H12.out)
    refine hK.out _ _ (GE) (fun hHeld => ?_)
    clear hK K
    try simp only [List.getElem_toArray, List.getElem_cons_succ, List.getElem_cons_zero, Act.put, List.setIfInBounds_toArray, List.set_cons_zero, List.set_cons_succ]
    refine wpAnyH_take (i := 15) (v := ?_) rfl (by kernel_rfl) (by kernel_rfl) (by kernel_rfl) (fun _ _ _ h => h) (Or.inl ⟨by rfl, ?_⟩) hHeld ?_
    rotate_left
    · intro wq hSw
      replace hSw : Grew w wq := hSw
      go_simp
      try with_reducible rfl
    try simp only [List.getElem_toArray, List.getElem_cons_succ, List.getElem_cons_zero, Act.put, List.setIfInBounds_toArray, List.set_cons_zero, List.set_cons_succ]
    refine wpAnyH_done (by kernel_rfl) ?_ _
    try simp only [List.getElem_toArray, List.getElem_cons_succ, List.getElem_cons_zero, Act.put, List.setIfInBounds_toArray, List.set_cons_zero, List.set_cons_succ]
    have EV := EB.out
    have z0 := EV.cell 0
    have z1 := EV.cell 1
    have z2 := EV.cell 2
    go_wp2_with fail
    rw [HF.out]
    exact bodyPost_ret (v := .tuple #[.agg #[.int .i64 g0, .int .i64 g2, .slice p12 (cutL xs 8 N).length k12], .int .i64 0]) (by simp [results, Tryd.results10, go_sem, z0, z1, z2]) rfl ⟨_, rfl, Ud.of H13.out HI.out.1 HI.out.2, hHeld⟩
end Go.Proofs.YtcaafinjphionaaDoor
