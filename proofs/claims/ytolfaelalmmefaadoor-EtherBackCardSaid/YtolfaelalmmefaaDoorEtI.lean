/-
  The document's own Get, GetArp.
-/
import Derived.Test.YtolfaelalmmefaaDoorEtH
import Derived.Test.YtolfaelalmmefaaDoorDeps
set_option maxRecDepth 4000
set_option linter.unusedVariables false
set_option linter.unusedSimpArgs false
namespace Go.Proofs.YtolfaelalmmefaaDoor
open Go.RowKit

theorem refGet_short (a : Option Addr) (n c : Nat) (hs : (n : Int) < 14) (w : World) :
    Calls Tryd.prog 15 #[.slice a n c] w fun e w' => ∃ u, e = .returned (.tuple #[u, .int .i64 160]) ∧ Fr w' u zF ∧ Grew w w' := by
  go_enter Tryd.func15, Tryd.ntmps15
  go_upto_region 1 with fail
  have hR : Blk (w.alloc (.cells #[.slice none 0 0, .slice none 0 0, .int .i64 0, .slice none 0 0] 25)) w.heap.size #[.slice none 0 0, .slice none 0 0, .int .i64 0, .slice none 0 0] 25 := Blk.new _ _ _ _ rfl
  have g0 : Grew w (w.alloc (.cells #[.slice none 0 0, .slice none 0 0, .int .i64 0, .slice none 0 0] 25)) := (Grew.refl _).alloc _
  generalize (w.alloc (.cells #[.slice none 0 0, .slice none 0 0, .int .i64 0, .slice none 0 0] 25)) = w0 at *
  generalize hlR : w.heap.size = R at *
  have y0 := hR.cell 0
  have y1 := hR.cell 1
  have y2 := hR.cell 2
  have y3 := hR.cell 3
  have f0 := hR.free 0
  have f1 := hR.free 1
  have f2 := hR.free 2
  have f3 := hR.free 3
  go_wp2_with fail
  have E := ((((hR.set (o := 0) (.slice none 0 0)).set (o := 1) (.slice none 0 0)).set (o := 2) (.int .i64 0)).set (o := 3) (.slice none 0 0))
  have GE := ((((g0.setCell (b := R) (o := 0) (by omega) (.slice none 0 0)).setCell (b := R) (o := 1) (by omega) (.slice none 0 0)).setCell (b := R) (o := 2) (by omega) (.int .i64 0)).setCell (b := R) (o := 3) (by omega) (.slice none 0 0))
  have z0 := E.cell 0
  have z1 := E.cell 1
  have z2 := E.cell 2
  have z3 := E.cell 3
  exact bodyPost_ret (v := .tuple #[.agg #[.slice none 0 0, .slice none 0 0, .int .i64 0, .slice none 0 0], .int .i64 160]) (by simp [results, Tryd.results15, go_sem, z0, z1, z2, z3]) rfl ⟨_, rfl, Fr.zero _, GE⟩
theorem refGet_long (a : Option Addr) (n c : Nat) (hs : ¬ ((n : Int) < 14)) (hl : (1514 : Int) < (n : Nat)) (w : World) :
    Calls Tryd.prog 15 #[.slice a n c] w fun e w' => ∃ u, e = .returned (.tuple #[u, .int .i64 161]) ∧ Fr w' u zF ∧ Grew w w' := by
  go_enter Tryd.func15, Tryd.ntmps15
  go_upto_region 1 with fail
  have hR : Blk (w.alloc (.cells #[.slice none 0 0, .slice none 0 0, .int .i64 0, .slice none 0 0] 25)) w.heap.size #[.slice none 0 0, .slice none 0 0, .int .i64 0, .slice none 0 0] 25 := Blk.new _ _ _ _ rfl
  have g0 : Grew w (w.alloc (.cells #[.slice none 0 0, .slice none 0 0, .int .i64 0, .slice none 0 0] 25)) := (Grew.refl _).alloc _
  generalize (w.alloc (.cells #[.slice none 0 0, .slice none 0 0, .int .i64 0, .slice none 0 0] 25)) = w0 at *
  generalize hlR : w.heap.size = R at *
  have y0 := hR.cell 0
  have y1 := hR.cell 1
  have y2 := hR.cell 2
  have y3 := hR.cell 3
  have f0 := hR.free 0
  have f1 := hR.free 1
  have f2 := hR.free 2
  have f3 := hR.free 3
  go_wp2_with fail
  have E := ((((hR.set (o := 0) (.slice none 0 0)).set (o := 1) (.slice none 0 0)).set (o := 2) (.int .i64 0)).set (o := 3) (.slice none 0 0))
  have GE := ((((g0.setCell (b := R) (o := 0) (by omega) (.slice none 0 0)).setCell (b := R) (o := 1) (by omega) (.slice none 0 0)).setCell (b := R) (o := 2) (by omega) (.int .i64 0)).setCell (b := R) (o := 3) (by omega) (.slice none 0 0))
  have z0 := E.cell 0
  have z1 := E.cell 1
  have z2 := E.cell 2
  have z3 := E.cell 3
  exact bodyPost_ret (v := .tuple #[.agg #[.slice none 0 0, .slice none 0 0, .int .i64 0, .slice none 0 0], .int .i64 161]) (by simp [results, Tryd.results15, go_sem, z0, z1, z2, z3]) rfl ⟨_, rfl, Fr.zero _, GE⟩
set_option maxHeartbeats 2000000 in
theorem refGet_ok (a : Option Addr) (n c : Nat) (xs : List Int) (hs : ¬ ((n : Int) < 14)) (hl : ¬ ((1514 : Int) < (n : Nat))) {w : World} (hb : Buf w (.slice a n c) xs) :
    Calls Tryd.prog 15 #[.slice a n c] w fun e w' => ∃ u, e = .returned (.tuple #[u, .int .i64 0]) ∧ Fr w' u (frOf xs) ∧ Grew w w' := by
  have hn := hb.lenEq.1
  obtain ⟨a1, c1, H1, x1, x2, x3, x4⟩ := hb.run_cut (lo := 0) (hi := 6) (by omega) (by omega)
  have r1 : ∀ w', (Instr.sliceAt 22 (.slice a n c) none (some (.int .i64 6)) none).run Tryd.prog w' = .ok (.slice a1 6 c1) w' := x3 rfl .i64
  replace H1 : Hid (Buf w (.slice a1 6 c1) (cutL xs 0 6)) := Lib.hid H1
  clear x1 x2 x3 x4
  obtain ⟨a2, c2, H2, x1, x2, x3, x4⟩ := hb.run_cut (lo := 6) (hi := 12) (by omega) (by omega)
  have r2 : ∀ w', (Instr.sliceAt 22 (.slice a n c) (some (.int .i64 6)) (some (.int .i64 12)) none).run Tryd.prog w' = .ok (.slice a2 6 c2) w' := x2 .i64 .i64
  replace H2 : Hid (Buf w (.slice a2 6 c2) (cutL xs 6 12)) := Lib.hid H2
  clear x1 x2 x3 x4
  obtain ⟨a3, c3, H3, x1, x2, x3, x4⟩ := hb.run_cut (lo := 12) (hi := 14) (by omega) (by omega)
  have r3 : ∀ w', (Instr.sliceAt 22 (.slice a n c) (some (.int .i64 12)) (some (.int .i64 14)) none).run Tryd.prog w' = .ok (.slice a3 2 c3) w' := x2 .i64 .i64
  replace H3 : Hid (Buf w (.slice a3 2 c3) (cutL xs 12 14)) := Lib.hid H3
  clear x1 x2 x3 x4
  obtain ⟨a4, c4, H4, x1, x2, x3, x4⟩ := hb.run_cut (lo := 14) (hi := xs.length) (by omega) (by omega)
  have r4 : ∀ w', (Instr.sliceAt 22 (.slice a n c) (some (.int .i64 14)) none none).run Tryd.prog w' = .ok (.slice a4 (n - 14) c4) w' := by
    have := x4 rfl .i64
    rwa [← hn] at this
  rw [← hn] at H4
  replace H4 := Lib.hid H4
  clear x1 x2 x3 x4
  have HLa := Lib.hid (cutL_length (xs := xs) (lo := 0) (hi := 6) (by omega) (by omega))
  have HLb := Lib.hid (cutL_length (xs := xs) (lo := 6) (hi := 12) (by omega) (by omega))
  have HLd : Hid ((cutL xs 14 n).length = n - 14) := Lib.hid (cutL_length (xs := xs) (lo := 14) (hi := n) (by omega) (by omega))
  have HL1 : Hid ((cutL xs 0 6).length ≤ 140737488355328) := Lib.hid (by rw [HLa.out]; omega)
  have HL2 : Hid ((cutL xs 6 12).length ≤ 140737488355328) := Lib.hid (by rw [HLb.out]; omega)
  have HL4 : Hid ((cutL xs 14 n).length ≤ 140737488355328) := Lib.hid (by rw [HLd.out]; omega)
  have hg := getG_lt (hb.ok.cut 12 14) true (n := 2) (cutL_length (by omega) (by omega)) (by omega)
  have HG : Hid (∀ w', Grew w w' → Calls Tryd.prog 33 #[.slice a3 2 c3, .bool true] w' fun e w'' => e = .returned (.int .u64 (getV (cutL xs 12 14) true)) ∧ Grew w' w'') := Lib.hid (fun w' g => refGetB_c (by rw [cutL_length (by omega) (by omega)]; omega) w' (H3.out.grew g))
  have HF : Hid (frOf xs = ⟨cutL xs 0 6, cutL xs 6 12, getV (cutL xs 12 14) true, cutL xs 14 n⟩) := Lib.hid (by rw [hn]; rfl)
  generalize getV (cutL xs 12 14) true = g1 at *
  have hw : IntKind.i64.wrap g1 = g1 := IntWalk.i64_in _ (by omega)
  have HI : Hid (intI g1) := Lib.hid (by unfold intI; omega)
  have HW := Lib.hid hw
  clear hg hw hb hn H3
  go_enter Tryd.func15, Tryd.ntmps15
  go_upto_region 1 with fail
  have hR : Blk (w.alloc (.cells #[.slice none 0 0, .slice none 0 0, .int .i64 0, .slice none 0 0] 25)) w.heap.size #[.slice none 0 0, .slice none 0 0, .int .i64 0, .slice none 0 0] 25 := Blk.new _ _ _ _ rfl
  have g0 : Grew w (w.alloc (.cells #[.slice none 0 0, .slice none 0 0, .int .i64 0, .slice none 0 0] 25)) := (Grew.refl _).alloc _
  generalize (w.alloc (.cells #[.slice none 0 0, .slice none 0 0, .int .i64 0, .slice none 0 0] 25)) = w0 at *
  generalize hlR : w.heap.size = R at *
  go_upto_region 5 with fail
  have HR0 := Lib.hid hR.drew
  refine wp_region_held_drew (S := fun w' => Grew w w') (by kernel_rfl) (by exact g0.drew1) (fun hHeld => ?_)
  replace hHeld : Grew w w0.drew := hHeld
  generalize w0.drew = wq0 at *
  refine wpAnyH_take (i := 0) (v := ?_) rfl (by kernel_rfl) (by kernel_rfl) (by kernel_rfl) (fun _ _ _ h => h) (Or.inl ⟨by rfl, ?_⟩) hHeld ?_
  rotate_left
  · intro wq hSw
    replace hSw : Grew w wq := hSw
    go_simp
    try with_reducible rfl
  try simp only [List.getElem_toArray, List.getElem_cons_succ, List.getElem_cons_zero, Act.put, List.setIfInBounds_toArray, List.set_cons_zero, List.set_cons_succ]
  refine wpAnyH_take (i := 1) (v := ?_) rfl (by kernel_rfl) (by kernel_rfl) (by kernel_rfl) (fun _ _ _ h => h) (Or.inl ⟨by rfl, ?_⟩) hHeld ?_
  rotate_left
  · intro wq hSw
    replace hSw : Grew w wq := hSw
    go_simp
    try with_reducible rfl
  try simp only [List.getElem_toArray, List.getElem_cons_succ, List.getElem_cons_zero, Act.put, List.setIfInBounds_toArray, List.set_cons_zero, List.set_cons_succ]
  refine wpAnyH_take (i := 3) (v := ?_) rfl (by kernel_rfl) (by kernel_rfl) (by kernel_rfl) (fun _ _ _ h => h) (Or.inl ⟨by rfl, ?_⟩) hHeld ?_
  rotate_left
  · intro wq hSw
    replace hSw : Grew w wq := hSw
    go_simp
    try with_reducible rfl
  try simp only [List.getElem_toArray, List.getElem_cons_succ, List.getElem_cons_zero, Act.put, List.setIfInBounds_toArray, List.set_cons_zero, List.set_cons_succ]
  refine wpAnyH_take (i := 4) (v := ?_) rfl (by kernel_rfl) (by kernel_rfl) (by kernel_rfl) (fun _ _ _ h => h) (Or.inl ⟨by rfl, ?_⟩) hHeld ?_
  rotate_left
  · intro wq hSw
    replace hSw : Grew w wq := hSw
    go_simp
    try with_reducible rfl
  try simp only [List.getElem_toArray, List.getElem_cons_succ, List.getElem_cons_zero, Act.put, List.setIfInBounds_toArray, List.set_cons_zero, List.set_cons_succ]
  refine wpAnyH_take (i := 6) (v := ?_) rfl (by kernel_rfl) (by kernel_rfl) (by kernel_rfl) (fun _ _ _ h => h) (Or.inl ⟨by rfl, ?_⟩) hHeld ?_
  rotate_left
  · intro wq hSw
    replace hSw : Grew w wq := hSw
    go_simp
    try with_reducible rfl
  try simp only [List.getElem_toArray, List.getElem_cons_succ, List.getElem_cons_zero, Act.put, List.setIfInBounds_toArray, List.set_cons_zero, List.set_cons_succ]
  refine wpAnyH_take (i := 7) (v := ?_) rfl (by kernel_rfl) (by kernel_rfl) (by kernel_rfl) (fun _ _ _ h => h) (Or.inl ⟨by rfl, ?_⟩) hHeld ?_
  rotate_left
  · intro wq hSw
    replace hSw : Grew w wq := hSw
    go_simp
    try with_reducible rfl
  try simp only [List.getElem_toArray, List.getElem_cons_succ, List.getElem_cons_zero, Act.put, List.setIfInBounds_toArray, List.set_cons_zero, List.set_cons_succ]
  refine wpAnyH_take (i := 10) (v := ?_) rfl (by kernel_rfl) (by kernel_rfl) (by kernel_rfl) (fun _ _ _ h => h) (Or.inl ⟨by rfl, ?_⟩) hHeld ?_
  rotate_left
  · intro wq hSw
    replace hSw : Grew w wq := hSw
    go_simp
    try with_reducible rfl
  try simp only [List.getElem_toArray, List.getElem_cons_succ, List.getElem_cons_zero, Act.put, List.setIfInBounds_toArray, List.set_cons_zero, List.set_cons_succ]
  refine wpAnyH_take (i := 11) (v := ?_) rfl (by kernel_rfl) (by kernel_rfl) (by kernel_rfl) (fun _ _ _ h => h) (Or.inl ⟨by rfl, ?_⟩) hHeld ?_
  rotate_left
  · intro wq hSw
    replace hSw : Grew w wq := hSw
    go_simp
    try with_reducible rfl
  try simp only [List.getElem_toArray, List.getElem_cons_succ, List.getElem_cons_zero, Act.put, List.setIfInBounds_toArray, List.set_cons_zero, List.set_cons_succ]
  refine wpAnyH_ready (rs := [2]) (by kernel_rfl) (by simp) ?_
  refine AllReadyH.cons rfl (fun K hK => ?_) AllReadyH.nil
  go_simp
  refine (own_c HL1.out (H1.out.grew hHeld)).mono ?_
  rintro e wk1 ⟨pa, ca, rfl, hrow, HA, gk1⟩
  clear hrow
  rw [HLa.out] at HA ⊢
  replace HA := Lib.hid HA
  replace HR0 := Lib.hid (HR0.out.grew gk1)
  refine hK.out _ _ (hHeld.trans gk1) (fun hHeld => ?_)
  clear hK K
  try simp only [List.getElem_toArray, List.getElem_cons_succ, List.getElem_cons_zero, Act.put, List.setIfInBounds_toArray, List.set_cons_zero, List.set_cons_succ]
  refine wpAnyH_ready (rs := [5]) (by kernel_rfl) (by simp) ?_
  refine AllReadyH.cons rfl (fun K hK => ?_) AllReadyH.nil
  go_simp
  refine (own_c HL2.out (H2.out.grew hHeld)).mono ?_
  rintro e wk2 ⟨pb, cb, rfl, hrow, HB, gk2⟩
  clear hrow
  rw [HLb.out] at HB ⊢
  replace HB := Lib.hid HB
  replace HR0 := Lib.hid (HR0.out.grew gk2)
  replace HA := Lib.hid (HA.out.grew gk2)
  refine hK.out _ _ (hHeld.trans gk2) (fun hHeld => ?_)
  clear hK K
  try simp only [List.getElem_toArray, List.getElem_cons_succ, List.getElem_cons_zero, Act.put, List.setIfInBounds_toArray, List.set_cons_zero, List.set_cons_succ]
  refine wpAnyH_ready (rs := [8]) (by kernel_rfl) (by simp) ?_
  refine AllReadyH.cons rfl (fun K hK => ?_) AllReadyH.nil
  go_simp
  refine (HG.out wk2 hHeld).mono ?_
  rintro e wk3 ⟨rfl, gk3⟩
  replace HR0 := Lib.hid (HR0.out.grew gk3)
  replace HA := Lib.hid (HA.out.grew gk3)
  replace HB := Lib.hid (HB.out.grew gk3)
  refine hK.out _ _ (hHeld.trans gk3) (fun hHeld => ?_)
  clear hK K
  try simp only [List.getElem_toArray, List.getElem_cons_succ, List.getElem_cons_zero, Act.put, List.setIfInBounds_toArray, List.set_cons_zero, List.set_cons_succ]
  refine wpAnyH_take (i := 9) (v := ?_) rfl (by kernel_rfl) (by kernel_rfl) (by kernel_rfl) (fun _ _ _ h => h) (Or.inl ⟨by rfl, ?_⟩) hHeld ?_
  rotate_left
  · intro wq hSw
    replace hSw : Grew w wq := hSw
    have hw := HW.out
    go_simp
    try with_reducible rfl
  try simp only [List.getElem_toArray, List.getElem_cons_succ, List.getElem_cons_zero, Act.put, List.setIfInBounds_toArray, List.set_cons_zero, List.set_cons_succ]
  refine wpAnyH_ready (rs := [12]) (by kernel_rfl) (by simp) ?_
  refine AllReadyH.cons rfl (fun K hK => ?_) AllReadyH.nil
  go_simp
  refine (own_c HL4.out (H4.out.grew hHeld)).mono ?_
  rintro e wk4 ⟨pd, cd, rfl, hrow, HD, gk4⟩
  clear hrow
  rw [HLd.out] at HD ⊢
  replace HD := Lib.hid HD
  replace HR0 := Lib.hid (HR0.out.grew gk4)
  replace HA := Lib.hid (HA.out.grew gk4)
  replace HB := Lib.hid (HB.out.grew gk4)
  refine hK.out _ _ (hHeld.trans gk4) (fun hHeld => ?_)
  clear hK K
  try simp only [List.getElem_toArray, List.getElem_cons_succ, List.getElem_cons_zero, Act.put, List.setIfInBounds_toArray, List.set_cons_zero, List.set_cons_succ]
  refine wpAnyH_take (i := 13) (v := ?_) rfl (by kernel_rfl) (by kernel_rfl) (by kernel_rfl) (fun _ _ _ h => h) (Or.inl ⟨by rfl, ?_⟩) hHeld ?_
  rotate_left
  · intro wq hSw
    replace hSw : Grew w wq := hSw
    go_simp
    try with_reducible rfl
  try simp only [List.getElem_toArray, List.getElem_cons_succ, List.getElem_cons_zero, Act.put, List.setIfInBounds_toArray, List.set_cons_zero, List.set_cons_succ]
  refine wpAnyH_ready (rs := [14]) (by kernel_rfl) (by simp) ?_
  refine AllReadyH.cons rfl (fun K hK => ?_) AllReadyH.nil
  have hRk := HR0.out
  have x0 := hRk.cell 0
  have x1 := hRk.cell 1
  have x2 := hRk.cell 2
  have x3 := hRk.cell 3
  have q0 := hRk.free 0
  have q1 := hRk.free 1
  have q2 := hRk.free 2
  have q3 := hRk.free 3
  go_simp
  have E := Lib.hid ((((hRk.set (o := 0) (.slice pa 6 ca)).set (o := 1) (.slice pb 6 cb)).set (o := 2) (.int .i64 g1)).set (o := 3) (.slice pd (n - 14) cd))
  have KK := ((((BufsKept.box (o := 0) hRk (by simp [noU8]) (.slice pa 6 ca)).trans (BufsKept.box (o := 1) (hRk.set (o := 0) (.slice pa 6 ca)) (by simp [noU8]) (.slice pb 6 cb))).trans (BufsKept.box (o := 2) ((hRk.set (o := 0) (.slice pa 6 ca)).set (o := 1) (.slice pb 6 cb)) (by simp [noU8]) (.int .i64 g1))).trans (BufsKept.box (o := 3) (((hRk.set (o := 0) (.slice pa 6 ca)).set (o := 1) (.slice pb 6 cb)).set (o := 2) (.int .i64 g1)) (by simp [noU8]) (.slice pd (n - 14) cd)))
  have GE := ((((hHeld.setCell (b := R) (o := 0) (by omega) (.slice pa 6 ca)).setCell (b := R) (o := 1) (by omega) (.slice pb 6 cb)).setCell (b := R) (o := 2) (by omega) (.int .i64 g1)).setCell (b := R) (o := 3) (by omega) (.slice pd (n - 14) cd))
  replace HA := Lib.hid (KK _ _ HA.out)
  replace HB := Lib.hid (KK _ _ HB.out)
  replace HD := Lib.hid (KK _ _ HD.out)
  refine hK.out _ _ (GE) (fun hHeld => ?_)
  clear hK K
  try simp only [List.getElem_toArray, List.getElem_cons_succ, List.getElem_cons_zero, Act.put, List.setIfInBounds_toArray, List.set_cons_zero, List.set_cons_succ]
  refine wpAnyH_ready (rs := [15]) (by kernel_rfl) (by simp) ?_
  refine AllReadyH.cons rfl (fun K hK => ?_) AllReadyH.nil
  go_simp
  refine hK.out _ _ hHeld (fun hHeld => ?_)
  clear hK K
  try simp only [List.getElem_toArray, List.getElem_cons_succ, List.getElem_cons_zero, Act.put, List.setIfInBounds_toArray, List.set_cons_zero, List.set_cons_succ]
  refine wpAnyH_done (by kernel_rfl) ?_ _
  try simp only [List.getElem_toArray, List.getElem_cons_succ, List.getElem_cons_zero, Act.put, List.setIfInBounds_toArray, List.set_cons_zero, List.set_cons_succ]
  replace E := E.out
  have z0 := E.cell 0
  have z1 := E.cell 1
  have z2 := E.cell 2
  have z3 := E.cell 3
  go_wp2_with fail
  rw [HF.out]
  exact bodyPost_ret (v := .tuple #[.agg #[.slice pa 6 ca, .slice pb 6 cb, .int .i64 g1, .slice pd (n - 14) cd], .int .i64 0]) (by simp [results, Tryd.results15, go_sem, z0, z1, z2, z3]) rfl ⟨_, rfl, Fr.of HA.out HB.out HD.out HI.out, GE⟩
theorem refGet16_c {v : Value} {xs : List Int} {w : World} (hb : Buf w v xs) :
    Calls Tryd.prog 15 #[v] w fun e w' => ∃ u, e = .returned (.tuple #[u, .int .i64 (getFE xs)]) ∧ Fr w' u (getF xs) ∧ Grew w w' := by
  obtain ⟨a, c, rfl, _, _⟩ := hb.shape
  unfold getF getFE
  by_cases h1 : xs.length < 14
  · rw [if_pos h1, if_pos (Or.inl h1)]
    exact refGet_short a xs.length c (by omega) w
  · rw [if_neg h1]
    by_cases h2 : 1514 < xs.length
    · rw [if_pos h2, if_pos (Or.inr h2)]
      exact refGet_long a xs.length c (by omega) (by omega) w
    · rw [if_neg h2, if_neg (by omega)]
      exact refGet_ok a xs.length c xs (by omega) (by omega) hb
theorem refGetA_short (a : Option Addr) (n c : Nat) (hs : (n : Int) < 28) (w : World) :
    Calls Tryd.prog 18 #[.slice a n c] w fun e w' => ∃ u, e = .returned (.tuple #[u, .int .i64 160]) ∧ Ar w' u zA ∧ Grew w w' := by
  go_enter Tryd.func18, Tryd.ntmps18
  go_upto_region 1 with fail
  have hR : Blk (w.alloc (.cells #[.int .i64 0, .slice none 0 0, .int .u32 0, .slice none 0 0, .int .u32 0] 34)) w.heap.size #[.int .i64 0, .slice none 0 0, .int .u32 0, .slice none 0 0, .int .u32 0] 34 := Blk.new _ _ _ _ rfl
  have g0 : Grew w (w.alloc (.cells #[.int .i64 0, .slice none 0 0, .int .u32 0, .slice none 0 0, .int .u32 0] 34)) := (Grew.refl _).alloc _
  generalize (w.alloc (.cells #[.int .i64 0, .slice none 0 0, .int .u32 0, .slice none 0 0, .int .u32 0] 34)) = w0 at *
  generalize hlR : w.heap.size = R at *
  have y0 := hR.cell 0
  have y1 := hR.cell 1
  have y2 := hR.cell 2
  have y3 := hR.cell 3
  have y4 := hR.cell 4
  have f0 := hR.free 0
  have f1 := hR.free 1
  have f2 := hR.free 2
  have f3 := hR.free 3
  have f4 := hR.free 4
  go_wp2_with fail
  have E := (((((hR.set (o := 0) (.int .i64 0)).set (o := 1) (.slice none 0 0)).set (o := 2) (.int .u32 0)).set (o := 3) (.slice none 0 0)).set (o := 4) (.int .u32 0))
  have GE := (((((g0.setCell (b := R) (o := 0) (by omega) (.int .i64 0)).setCell (b := R) (o := 1) (by omega) (.slice none 0 0)).setCell (b := R) (o := 2) (by omega) (.int .u32 0)).setCell (b := R) (o := 3) (by omega) (.slice none 0 0)).setCell (b := R) (o := 4) (by omega) (.int .u32 0))
  have z0 := E.cell 0
  have z1 := E.cell 1
  have z2 := E.cell 2
  have z3 := E.cell 3
  have z4 := E.cell 4
  exact bodyPost_ret (v := .tuple #[.agg #[.int .i64 0, .slice none 0 0, .int .u32 0, .slice none 0 0, .int .u32 0], .int .i64 160]) (by simp [results, Tryd.results18, go_sem, z0, z1, z2, z3, z4]) rfl ⟨_, rfl, Ar.zero _, GE⟩
/-- What the operations of a region give. -/
def rgaR (W : World) (xs : List Int) (a : Option Addr) (n c : Nat) (a1 : Option Addr) (c1 : Nat) (a2 : Option Addr) (c2 : Nat) (a3 : Option Addr) (c3 : Nat) (a4 : Option Addr) (c4 : Nat) (a5 : Option Addr) (c5 : Nat) (x1 x2 x3 : Int) : (Nat → Value) → Nat → Value → World → Prop
  | _, 0, v, _ => v = .slice a n c
  | _, 1, v, _ => v = .slice a1 2 c1
  | _, 2, v, _ => v = .int .u64 x1
  | _, 3, v, _ => v = .int .i64 x1
  | _, 4, v, _ => v = .slice a n c
  | _, 5, v, _ => v = .slice a2 6 c2
  | _, 6, v, w => ∃ b0 b1, v = .slice b0 6 b1 ∧ Buf w (.slice b0 6 b1) (cutL xs 8 14)
  | _, 7, v, _ => v = .slice a n c
  | _, 8, v, _ => v = .slice a3 4 c3
  | _, 9, v, _ => v = .int .u64 x2
  | _, 10, v, _ => v = .int .u32 x2
  | _, 11, v, _ => v = .slice a n c
  | _, 12, v, _ => v = .slice a4 6 c4
  | _, 13, v, w => ∃ b0 b1, v = .slice b0 6 b1 ∧ Buf w (.slice b0 6 b1) (cutL xs 18 24)
  | _, 14, v, _ => v = .slice a n c
  | _, 15, v, _ => v = .slice a5 4 c5
  | _, 16, v, _ => v = .int .u64 x3
  | _, 17, v, _ => v = .int .u32 x3
  | _, 18, v, w => ∃ b0 b1 b2 b3, v = .agg #[.int .i64 x1, .slice b0 6 b1, .int .u32 x2, .slice b2 6 b3, .int .u32 x3] ∧ Buf w (.slice b0 6 b1) (cutL xs 8 14) ∧ Buf w (.slice b2 6 b3) (cutL xs 18 24)
  | _, 19, v, w => ∃ b0, v = .pointer (some ⟨b0, 0, none⟩) ∧ W.heap.size ≤ b0 ∧ Blk w b0 #[.int .i64 0, .slice none 0 0, .int .u32 0, .slice none 0 0, .int .u32 0] 34
  | _, _, _, _ => True
theorem rgaR_grew {W : World} {xs : List Int} {a : Option Addr} {n c : Nat} {a1 : Option Addr} {c1 : Nat} {a2 : Option Addr} {c2 : Nat} {a3 : Option Addr} {c3 : Nat} {a4 : Option Addr} {c4 : Nat} {a5 : Option Addr} {c5 : Nat} {x1 x2 x3 : Int} : ∀ vs j v w w', Grew w w' → rgaR W xs a n c a1 c1 a2 c2 a3 c3 a4 c4 a5 c5 x1 x2 x3 vs j v w → rgaR W xs a n c a1 c1 a2 c2 a3 c3 a4 c4 a5 c5 x1 x2 x3 vs j v w'
  | _, 0, _, _, _, _, h => h
  | _, 1, _, _, _, _, h => h
  | _, 2, _, _, _, _, h => h
  | _, 3, _, _, _, _, h => h
  | _, 4, _, _, _, _, h => h
  | _, 5, _, _, _, _, h => h
  | _, 6, _, _, _, g, ⟨b0, b1, e, h0⟩ => ⟨b0, b1, e, h0.grew g⟩
  | _, 7, _, _, _, _, h => h
  | _, 8, _, _, _, _, h => h
  | _, 9, _, _, _, _, h => h
  | _, 10, _, _, _, _, h => h
  | _, 11, _, _, _, _, h => h
  | _, 12, _, _, _, _, h => h
  | _, 13, _, _, _, g, ⟨b0, b1, e, h0⟩ => ⟨b0, b1, e, h0.grew g⟩
  | _, 14, _, _, _, _, h => h
  | _, 15, _, _, _, _, h => h
  | _, 16, _, _, _, _, h => h
  | _, 17, _, _, _, _, h => h
  | _, 18, _, _, _, g, ⟨b0, b1, b2, b3, e, h0, h1⟩ => ⟨b0, b1, b2, b3, e, h0.grew g, h1.grew g⟩
  | _, 19, _, _, _, g, ⟨b0, e, h0, h1⟩ => ⟨b0, e, h0, h1.grew g⟩
  | _, _ + 20, _, _, _, _, _ => True.intro
theorem rgaR_lt {W : World} {xs : List Int} {a : Option Addr} {n c : Nat} {a1 : Option Addr} {c1 : Nat} {a2 : Option Addr} {c2 : Nat} {a3 : Option Addr} {c3 : Nat} {a4 : Option Addr} {c4 : Nat} {a5 : Option Addr} {c5 : Nat} {x1 x2 x3 : Int} : ∀ vs j v w, ([19] : List Nat).contains j = true → rgaR W xs a n c a1 c1 a2 c2 a3 c3 a4 c4 a5 c5 x1 x2 x3 vs j v w → ∀ g, leadsTo v = some g → g < w.heap.size
  | _, 0, _, _, hc, _ => by simp at hc
  | _, 1, _, _, hc, _ => by simp at hc
  | _, 2, _, _, hc, _ => by simp at hc
  | _, 3, _, _, hc, _ => by simp at hc
  | _, 4, _, _, hc, _ => by simp at hc
  | _, 5, _, _, hc, _ => by simp at hc
  | _, 6, _, _, hc, _ => by simp at hc
  | _, 7, _, _, hc, _ => by simp at hc
  | _, 8, _, _, hc, _ => by simp at hc
  | _, 9, _, _, hc, _ => by simp at hc
  | _, 10, _, _, hc, _ => by simp at hc
  | _, 11, _, _, hc, _ => by simp at hc
  | _, 12, _, _, hc, _ => by simp at hc
  | _, 13, _, _, hc, _ => by simp at hc
  | _, 14, _, _, hc, _ => by simp at hc
  | _, 15, _, _, hc, _ => by simp at hc
  | _, 16, _, _, hc, _ => by simp at hc
  | _, 17, _, _, hc, _ => by simp at hc
  | _, 18, _, _, hc, _ => by simp at hc
  | _, 19, _, w, _, ⟨b0, e, h0, h1⟩ => by subst e; intro g hg; simp only [leadsTo, Option.some.injEq] at hg; subst hg; exact h1.lt
  | _, _ + 20, _, _, hc, _ => by simp at hc
theorem rgaR_loc {W : World} {xs : List Int} {a : Option Addr} {n c : Nat} {a1 : Option Addr} {c1 : Nat} {a2 : Option Addr} {c2 : Nat} {a3 : Option Addr} {c3 : Nat} {a4 : Option Addr} {c4 : Nat} {a5 : Option Addr} {c5 : Nat} {x1 x2 x3 : Int} : ∀ (vs vs' : Nat → Value) j v w, (∀ k ∈ ([[], [], [], [], [], [], [], [], [], [], [], [], [], [], [], [], [], [], [], []] : List (List Nat)).getD j [], vs k = vs' k) → rgaR W xs a n c a1 c1 a2 c2 a3 c3 a4 c4 a5 c5 x1 x2 x3 vs j v w → rgaR W xs a n c a1 c1 a2 c2 a3 c3 a4 c4 a5 c5 x1 x2 x3 vs' j v w
  | _, _, 0, _, _, _, h => h
  | _, _, 1, _, _, _, h => h
  | _, _, 2, _, _, _, h => h
  | _, _, 3, _, _, _, h => h
  | _, _, 4, _, _, _, h => h
  | _, _, 5, _, _, _, h => h
  | _, _, 6, _, _, _, h => h
  | _, _, 7, _, _, _, h => h
  | _, _, 8, _, _, _, h => h
  | _, _, 9, _, _, _, h => h
  | _, _, 10, _, _, _, h => h
  | _, _, 11, _, _, _, h => h
  | _, _, 12, _, _, _, h => h
  | _, _, 13, _, _, _, h => h
  | _, _, 14, _, _, _, h => h
  | _, _, 15, _, _, _, h => h
  | _, _, 16, _, _, _, h => h
  | _, _, 17, _, _, _, h => h
  | _, _, 18, _, _, _, h => h
  | _, _, 19, _, _, _, h => h
  | _, _, _ + 20, _, _, _, _ => True.intro
theorem arOf_back {xs : List Int} (ok : AreBytes xs) (h : 28 ≤ xs.length) : putA (arOf xs) = headL ++ cutL xs 6 28 := by
  unfold putA arOf
  have e1 := putG_getV (ok.cut 6 8) (by rw [cutL_length (by omega) (by omega)]; omega) true
  have e2 := putG_getV (ok.cut 14 18) (by rw [cutL_length (by omega) (by omega)]; omega) true
  have e3 := putG_getV (ok.cut 24 28) (by rw [cutL_length (by omega) (by omega)]; omega) true
  rw [cutL_length (by omega) (by omega)] at e1 e2 e3
  simp only at e1 e2 e3 ⊢
  rw [e1, e2, e3, cutL_join xs (by omega) (by omega), cutL_join xs (by omega) (by omega), cutL_join xs (by omega) (by omega), cutL_join xs (by omega) (by omega)]
theorem arOf_ok {xs : List Int} (h : 28 ≤ xs.length) : okA (arOf xs) = decide ((arOf xs).op = 1 ∨ (arOf xs).op = 2) := by
  unfold okA
  have h1 : (arOf xs).sm.length = 6 := cutL_length (by omega) (by omega)
  have h2 : (arOf xs).tm.length = 6 := cutL_length (by omega) (by omega)
  rw [h1, h2]
  simp
theorem arOf_same {xs : List Int} (ok : AreBytes xs) (h : 28 ≤ xs.length) : decide (putA (arOf xs) = cutL xs 0 28) = decide (cutL xs 0 6 = headL) := by
  rw [arOf_back ok h, ← cutL_join xs (show 0 ≤ 6 by omega) (show 6 ≤ 28 by omega)]
  refine decide_eq_decide.2 ⟨fun e => ?_, fun e => by rw [e]⟩
  exact (List.append_cancel_right e).symm
theorem isA_ref {xs : List Int} (ok : AreBytes xs) (h : 28 ≤ xs.length) : isA xs = (okA (arOf xs) && decide (putA (arOf xs) = cutL xs 0 28)) := by
  rw [arOf_ok h, arOf_same ok h]
  unfold isA
  rw [Bool.and_comm]
set_option maxHeartbeats 4000000 in
theorem refGetA_long (a : Option Addr) (n c : Nat) (xs : List Int) (hs : ¬ ((n : Int) < 28)) {w : World} (hb : Buf w (.slice a n c) xs) :
    Calls Tryd.prog 18 #[.slice a n c] w fun e w' => ∃ u, e = .returned (.tuple #[u, .int .i64 (getAE xs)]) ∧ Ar w' u (getA xs) ∧ Grew w w' := by
  have hn := hb.lenEq.1
  obtain ⟨a1, c1, H1, x1, x2, x3, x4⟩ := hb.run_cut (lo := 6) (hi := 8) (by omega) (by omega)
  have r1 : ∀ w', (Instr.sliceAt 22 (.slice a n c) (some (.int .i64 6)) (some (.int .i64 8)) none).run Tryd.prog w' = .ok (.slice a1 2 c1) w' := x2 .i64 .i64
  replace H1 : Hid (Buf w (.slice a1 2 c1) (cutL xs 6 8)) := Lib.hid H1
  clear x1 x2 x3 x4
  obtain ⟨a2, c2, H2, x1, x2, x3, x4⟩ := hb.run_cut (lo := 8) (hi := 14) (by omega) (by omega)
  have r2 : ∀ w', (Instr.sliceAt 22 (.slice a n c) (some (.int .i64 8)) (some (.int .i64 14)) none).run Tryd.prog w' = .ok (.slice a2 6 c2) w' := x2 .i64 .i64
  replace H2 : Hid (Buf w (.slice a2 6 c2) (cutL xs 8 14)) := Lib.hid H2
  clear x1 x2 x3 x4
  obtain ⟨a3, c3, H3, x1, x2, x3, x4⟩ := hb.run_cut (lo := 14) (hi := 18) (by omega) (by omega)
  have r3 : ∀ w', (Instr.sliceAt 22 (.slice a n c) (some (.int .i64 14)) (some (.int .i64 18)) none).run Tryd.prog w' = .ok (.slice a3 4 c3) w' := x2 .i64 .i64
  replace H3 : Hid (Buf w (.slice a3 4 c3) (cutL xs 14 18)) := Lib.hid H3
  clear x1 x2 x3 x4
  obtain ⟨a4, c4, H4, x1, x2, x3, x4⟩ := hb.run_cut (lo := 18) (hi := 24) (by omega) (by omega)
  have r4 : ∀ w', (Instr.sliceAt 22 (.slice a n c) (some (.int .i64 18)) (some (.int .i64 24)) none).run Tryd.prog w' = .ok (.slice a4 6 c4) w' := x2 .i64 .i64
  replace H4 : Hid (Buf w (.slice a4 6 c4) (cutL xs 18 24)) := Lib.hid H4
  clear x1 x2 x3 x4
  obtain ⟨a5, c5, H5, x1, x2, x3, x4⟩ := hb.run_cut (lo := 24) (hi := 28) (by omega) (by omega)
  have r5 : ∀ w', (Instr.sliceAt 22 (.slice a n c) (some (.int .i64 24)) (some (.int .i64 28)) none).run Tryd.prog w' = .ok (.slice a5 4 c5) w' := x2 .i64 .i64
  replace H5 : Hid (Buf w (.slice a5 4 c5) (cutL xs 24 28)) := Lib.hid H5
  clear x1 x2 x3 x4
  obtain ⟨a6, c6, H6, x1, x2, x3, x4⟩ := hb.run_cut (lo := 0) (hi := 28) (by omega) (by omega)
  have r6 : ∀ w', (Instr.sliceAt 22 (.slice a n c) none (some (.int .i64 28)) none).run Tryd.prog w' = .ok (.slice a6 28 c6) w' := x3 rfl .i64
  replace H6 : Hid (Buf w (.slice a6 28 c6) (cutL xs 0 28)) := Lib.hid H6
  clear x1 x2 x3 x4
  have HLe2 := Lib.hid (cutL_length (xs := xs) (lo := 8) (hi := 14) (by omega) (by omega))
  have HLe4 := Lib.hid (cutL_length (xs := xs) (lo := 18) (hi := 24) (by omega) (by omega))
  have HL2 : Hid ((cutL xs 8 14).length ≤ 140737488355328) := Lib.hid (by rw [HLe2.out]; omega)
  have HL4 : Hid ((cutL xs 18 24).length ≤ 140737488355328) := Lib.hid (by rw [HLe4.out]; omega)
  have hg1 := getG_lt (hb.ok.cut 6 8) true (n := 2) (cutL_length (by omega) (by omega)) (by omega)
  have hg2 := getG_lt (hb.ok.cut 14 18) true (n := 4) (cutL_length (by omega) (by omega)) (by omega)
  have hg3 := getG_lt (hb.ok.cut 24 28) true (n := 4) (cutL_length (by omega) (by omega)) (by omega)
  have HG1 : Hid (∀ w', Grew w w' → Calls Tryd.prog 33 #[.slice a1 2 c1, .bool true] w' fun e w'' => e = .returned (.int .u64 (getV (cutL xs 6 8) true)) ∧ Grew w' w'') := Lib.hid (fun w' g => refGetB_c (by rw [cutL_length (by omega) (by omega)]; omega) w' (H1.out.grew g))
  have HG3 : Hid (∀ w', Grew w w' → Calls Tryd.prog 33 #[.slice a3 4 c3, .bool true] w' fun e w'' => e = .returned (.int .u64 (getV (cutL xs 14 18) true)) ∧ Grew w' w'') := Lib.hid (fun w' g => refGetB_c (by rw [cutL_length (by omega) (by omega)]; omega) w' (H3.out.grew g))
  have HG5 : Hid (∀ w', Grew w w' → Calls Tryd.prog 33 #[.slice a5 4 c5, .bool true] w' fun e w'' => e = .returned (.int .u64 (getV (cutL xs 24 28) true)) ∧ Grew w' w'') := Lib.hid (fun w' g => refGetB_c (by rw [cutL_length (by omega) (by omega)]; omega) w' (H5.out.grew g))
  have HF : Hid (arOf xs = ⟨getV (cutL xs 6 8) true, cutL xs 8 14, getV (cutL xs 14 18) true, cutL xs 18 24, getV (cutL xs 24 28) true⟩) := Lib.hid rfl
  have HIS := Lib.hid (isA_ref hb.ok (by omega))
  have hAE : getAE xs = if isA xs then 0 else 161 := by unfold getAE; rw [if_neg (by omega)]
  have hGA : getA xs = if isA xs = false then zA else arOf xs := by
    unfold getA
    by_cases hi : isA xs = false
    · rw [if_pos (Or.inr hi), if_pos hi]
    · rw [if_neg (by simp [hi]; omega), if_neg hi]
  have HAE := Lib.hid hAE
  have HGA := Lib.hid hGA
  clear hAE hGA
  generalize getV (cutL xs 6 8) true = x1 at *
  generalize getV (cutL xs 14 18) true = x2 at *
  generalize getV (cutL xs 24 28) true = x3 at *
  have HW1 := Lib.hid (show IntKind.i64.wrap x1 = x1 from IntWalk.i64_in _ (by omega))
  have HW2 := Lib.hid (show IntKind.u32.wrap x2 = x2 by have e : (2 : Int) ^ (8 * 4) = 4294967296 := by decide
                                                        rw [IntKind.wrap_u32]; omega)
  have HW3 := Lib.hid (show IntKind.u32.wrap x3 = x3 by have e : (2 : Int) ^ (8 * 4) = 4294967296 := by decide
                                                        rw [IntKind.wrap_u32]; omega)
  have HI : Hid (intI x1 ∧ u32I x2 ∧ u32I x3) := Lib.hid (by have e : (2 : Int) ^ (8 * 4) = 4294967296 := by decide
                                                             unfold intI u32I; omega)
  clear hg1 hg2 hg3 hb hn H1 H3 H5
  go_enter Tryd.func18, Tryd.ntmps18
  go_upto_region 1 with fail
  have hR : Blk (w.alloc (.cells #[.int .i64 0, .slice none 0 0, .int .u32 0, .slice none 0 0, .int .u32 0] 34)) w.heap.size #[.int .i64 0, .slice none 0 0, .int .u32 0, .slice none 0 0, .int .u32 0] 34 := Blk.new _ _ _ _ rfl
  have g0 : Grew w (w.alloc (.cells #[.int .i64 0, .slice none 0 0, .int .u32 0, .slice none 0 0, .int .u32 0] 34)) := (Grew.refl _).alloc _
  generalize (w.alloc (.cells #[.int .i64 0, .slice none 0 0, .int .u32 0, .slice none 0 0, .int .u32 0] 34)) = w0 at *
  generalize hlR : w.heap.size = R at *
  go_upto_region 3 with fail
  refine region_deps 20 [some 11, some 12, some 13, some 14, some 15, some 16, some 17, some 18, some 19, some 20, some 21, some 22, some 23, some 24, some 25, some 26, some 27, some 28, some 29, some 4] [[], [], [], [], [], [], [], [], [], [], [], [], [], [], [], [], [], [], [], []] [19] (rgaR w0 xs a n c a1 c1 a2 c2 a3 c3 a4 c4 a5 c5 x1 x2 x3) rgaR_grew rgaR_lt rgaR_loc (Grew.refl w0) (by kernel_rfl) (by kernel_rfl) ?_ ?_
  · simp only [List.take_succ_cons, List.take_zero]
    refine GivesAll.cons (fun vs w1 g1 hd K hK => ?_) ?_
    · simp only [putsT, Nat.zero_add, Nat.reduceAdd, List.getD_cons_zero, List.getD_cons_succ, Act.put, List.setIfInBounds_toArray, List.set_cons_zero, List.set_cons_succ] at hK ⊢
      go_simp
      exact hK _ _ (Grew.refl _) rfl (fun h => by simp at h)
    refine GivesAll.cons (fun vs w1 g1 hd K hK => ?_) ?_
    · have e0 : vs 0 = .slice a n c := hd 0 (by kernel_rfl)
      simp only [putsT, Nat.zero_add, Nat.reduceAdd, List.getD_cons_zero, List.getD_cons_succ, Act.put, List.setIfInBounds_toArray, List.set_cons_zero, List.set_cons_succ, e0] at hK ⊢
      go_simp
      exact hK _ _ (Grew.refl _) rfl (fun h => by simp at h)
    refine GivesAll.cons (fun vs w1 g1 hd K hK => ?_) ?_
    · have e1 : vs 1 = .slice a1 2 c1 := hd 1 (by kernel_rfl)
      simp only [putsT, Nat.zero_add, Nat.reduceAdd, List.getD_cons_zero, List.getD_cons_succ, Act.put, List.setIfInBounds_toArray, List.set_cons_zero, List.set_cons_succ, e1] at hK ⊢
      go_simp
      refine Calls.mono (HG1.out w1 (g0.trans g1)) ?_
      rintro e w5 ⟨rfl, g5⟩
      exact hK _ _ g5 rfl (fun h => by simp at h)
    refine GivesAll.cons (fun vs w1 g1 hd K hK => ?_) ?_
    · have e2 : vs 2 = .int .u64 x1 := hd 2 (by kernel_rfl)
      simp only [putsT, Nat.zero_add, Nat.reduceAdd, List.getD_cons_zero, List.getD_cons_succ, Act.put, List.setIfInBounds_toArray, List.set_cons_zero, List.set_cons_succ, e2] at hK ⊢
      have hw := HW1.out
      go_simp
      exact hK _ _ (Grew.refl _) rfl (fun h => by simp at h)
    refine GivesAll.cons (fun vs w1 g1 hd K hK => ?_) ?_
    · simp only [putsT, Nat.zero_add, Nat.reduceAdd, List.getD_cons_zero, List.getD_cons_succ, Act.put, List.setIfInBounds_toArray, List.set_cons_zero, List.set_cons_succ] at hK ⊢
      go_simp
      exact hK _ _ (Grew.refl _) rfl (fun h => by simp at h)
    refine GivesAll.cons (fun vs w1 g1 hd K hK => ?_) ?_
    · have e4 : vs 4 = .slice a n c := hd 4 (by kernel_rfl)
      simp only [putsT, Nat.zero_add, Nat.reduceAdd, List.getD_cons_zero, List.getD_cons_succ, Act.put, List.setIfInBounds_toArray, List.set_cons_zero, List.set_cons_succ, e4] at hK ⊢
      go_simp
      exact hK _ _ (Grew.refl _) rfl (fun h => by simp at h)
    refine GivesAll.cons (fun vs w1 g1 hd K hK => ?_) ?_
    · have e5 : vs 5 = .slice a2 6 c2 := hd 5 (by kernel_rfl)
      simp only [putsT, Nat.zero_add, Nat.reduceAdd, List.getD_cons_zero, List.getD_cons_succ, Act.put, List.setIfInBounds_toArray, List.set_cons_zero, List.set_cons_succ, e5] at hK ⊢
      go_simp
      refine Calls.mono (own_c HL2.out (H2.out.grew (g0.trans g1))) ?_
      rintro e w5 ⟨p5, c5, rfl, hrow, h5, g5⟩
      rw [HLe2.out] at h5 ⊢
      exact hK _ _ g5 ⟨_, _, rfl, h5⟩ (fun h => by simp at h)
    refine GivesAll.cons (fun vs w1 g1 hd K hK => ?_) ?_
    · simp only [putsT, Nat.zero_add, Nat.reduceAdd, List.getD_cons_zero, List.getD_cons_succ, Act.put, List.setIfInBounds_toArray, List.set_cons_zero, List.set_cons_succ] at hK ⊢
      go_simp
      exact hK _ _ (Grew.refl _) rfl (fun h => by simp at h)
    refine GivesAll.cons (fun vs w1 g1 hd K hK => ?_) ?_
    · have e7 : vs 7 = .slice a n c := hd 7 (by kernel_rfl)
      simp only [putsT, Nat.zero_add, Nat.reduceAdd, List.getD_cons_zero, List.getD_cons_succ, Act.put, List.setIfInBounds_toArray, List.set_cons_zero, List.set_cons_succ, e7] at hK ⊢
      go_simp
      exact hK _ _ (Grew.refl _) rfl (fun h => by simp at h)
    refine GivesAll.cons (fun vs w1 g1 hd K hK => ?_) ?_
    · have e8 : vs 8 = .slice a3 4 c3 := hd 8 (by kernel_rfl)
      simp only [putsT, Nat.zero_add, Nat.reduceAdd, List.getD_cons_zero, List.getD_cons_succ, Act.put, List.setIfInBounds_toArray, List.set_cons_zero, List.set_cons_succ, e8] at hK ⊢
      go_simp
      refine Calls.mono (HG3.out w1 (g0.trans g1)) ?_
      rintro e w5 ⟨rfl, g5⟩
      exact hK _ _ g5 rfl (fun h => by simp at h)
    refine GivesAll.cons (fun vs w1 g1 hd K hK => ?_) ?_
    · have e9 : vs 9 = .int .u64 x2 := hd 9 (by kernel_rfl)
      simp only [putsT, Nat.zero_add, Nat.reduceAdd, List.getD_cons_zero, List.getD_cons_succ, Act.put, List.setIfInBounds_toArray, List.set_cons_zero, List.set_cons_succ, e9] at hK ⊢
      have hw := HW2.out
      go_simp
      exact hK _ _ (Grew.refl _) rfl (fun h => by simp at h)
    refine GivesAll.cons (fun vs w1 g1 hd K hK => ?_) ?_
    · simp only [putsT, Nat.zero_add, Nat.reduceAdd, List.getD_cons_zero, List.getD_cons_succ, Act.put, List.setIfInBounds_toArray, List.set_cons_zero, List.set_cons_succ] at hK ⊢
      go_simp
      exact hK _ _ (Grew.refl _) rfl (fun h => by simp at h)
    refine GivesAll.cons (fun vs w1 g1 hd K hK => ?_) ?_
    · have e11 : vs 11 = .slice a n c := hd 11 (by kernel_rfl)
      simp only [putsT, Nat.zero_add, Nat.reduceAdd, List.getD_cons_zero, List.getD_cons_succ, Act.put, List.setIfInBounds_toArray, List.set_cons_zero, List.set_cons_succ, e11] at hK ⊢
      go_simp
      exact hK _ _ (Grew.refl _) rfl (fun h => by simp at h)
    refine GivesAll.cons (fun vs w1 g1 hd K hK => ?_) ?_
    · have e12 : vs 12 = .slice a4 6 c4 := hd 12 (by kernel_rfl)
      simp only [putsT, Nat.zero_add, Nat.reduceAdd, List.getD_cons_zero, List.getD_cons_succ, Act.put, List.setIfInBounds_toArray, List.set_cons_zero, List.set_cons_succ, e12] at hK ⊢
      go_simp
      refine Calls.mono (own_c HL4.out (H4.out.grew (g0.trans g1))) ?_
      rintro e w5 ⟨p5, c5, rfl, hrow, h5, g5⟩
      rw [HLe4.out] at h5 ⊢
      exact hK _ _ g5 ⟨_, _, rfl, h5⟩ (fun h => by simp at h)
    refine GivesAll.cons (fun vs w1 g1 hd K hK => ?_) ?_
    · simp only [putsT, Nat.zero_add, Nat.reduceAdd, List.getD_cons_zero, List.getD_cons_succ, Act.put, List.setIfInBounds_toArray, List.set_cons_zero, List.set_cons_succ] at hK ⊢
      go_simp
      exact hK _ _ (Grew.refl _) rfl (fun h => by simp at h)
    refine GivesAll.cons (fun vs w1 g1 hd K hK => ?_) ?_
    · have e14 : vs 14 = .slice a n c := hd 14 (by kernel_rfl)
      simp only [putsT, Nat.zero_add, Nat.reduceAdd, List.getD_cons_zero, List.getD_cons_succ, Act.put, List.setIfInBounds_toArray, List.set_cons_zero, List.set_cons_succ, e14] at hK ⊢
      go_simp
      exact hK _ _ (Grew.refl _) rfl (fun h => by simp at h)
    refine GivesAll.cons (fun vs w1 g1 hd K hK => ?_) ?_
    · have e15 : vs 15 = .slice a5 4 c5 := hd 15 (by kernel_rfl)
      simp only [putsT, Nat.zero_add, Nat.reduceAdd, List.getD_cons_zero, List.getD_cons_succ, Act.put, List.setIfInBounds_toArray, List.set_cons_zero, List.set_cons_succ, e15] at hK ⊢
      go_simp
      refine Calls.mono (HG5.out w1 (g0.trans g1)) ?_
      rintro e w5 ⟨rfl, g5⟩
      exact hK _ _ g5 rfl (fun h => by simp at h)
    refine GivesAll.cons (fun vs w1 g1 hd K hK => ?_) ?_
    · have e16 : vs 16 = .int .u64 x3 := hd 16 (by kernel_rfl)
      simp only [putsT, Nat.zero_add, Nat.reduceAdd, List.getD_cons_zero, List.getD_cons_succ, Act.put, List.setIfInBounds_toArray, List.set_cons_zero, List.set_cons_succ, e16] at hK ⊢
      have hw := HW3.out
      go_simp
      exact hK _ _ (Grew.refl _) rfl (fun h => by simp at h)
    refine GivesAll.cons (fun vs w1 g1 hd K hK => ?_) ?_
    · have e3 : vs 3 = .int .i64 x1 := hd 3 (by kernel_rfl)
      obtain ⟨b0_6, b1_6, e6, r6_0⟩ := hd 6 (by kernel_rfl)
      have e10 : vs 10 = .int .u32 x2 := hd 10 (by kernel_rfl)
      obtain ⟨b0_13, b1_13, e13, r13_0⟩ := hd 13 (by kernel_rfl)
      have e17 : vs 17 = .int .u32 x3 := hd 17 (by kernel_rfl)
      simp only [putsT, Nat.zero_add, Nat.reduceAdd, List.getD_cons_zero, List.getD_cons_succ, Act.put, List.setIfInBounds_toArray, List.set_cons_zero, List.set_cons_succ, e3, e6, e10, e13, e17] at hK ⊢
      go_simp
      exact hK _ _ (Grew.refl _) ⟨_, _, _, _, rfl, r6_0, r13_0⟩ (fun h => by simp at h)
    refine GivesAll.cons (fun vs w1 g1 hd K hK => ?_) ?_
    · simp only [putsT, Nat.zero_add, Nat.reduceAdd, List.getD_cons_zero, List.getD_cons_succ, Act.put, List.setIfInBounds_toArray, List.set_cons_zero, List.set_cons_succ] at hK ⊢
      go_simp
      exact hK _ _ ((Grew.refl _).alloc _) ⟨_, rfl, g1.size, Blk.new _ _ _ _ rfl⟩ (fun _ g hg => by simp only [leadsTo, Option.some.injEq] at hg; subst hg; exact Nat.le_refl _)
    exact GivesAll.nil
  intro vs wz gz hv hap
  have e0 : vs 0 = .slice a n c := hv 0 (by decide)
  have e1 : vs 1 = .slice a1 2 c1 := hv 1 (by decide)
  have e2 : vs 2 = .int .u64 x1 := hv 2 (by decide)
  have e3 : vs 3 = .int .i64 x1 := hv 3 (by decide)
  have e4 : vs 4 = .slice a n c := hv 4 (by decide)
  have e5 : vs 5 = .slice a2 6 c2 := hv 5 (by decide)
  obtain ⟨b0_6, b1_6, e6, r6_0⟩ := hv 6 (by decide)
  have e7 : vs 7 = .slice a n c := hv 7 (by decide)
  have e8 : vs 8 = .slice a3 4 c3 := hv 8 (by decide)
  have e9 : vs 9 = .int .u64 x2 := hv 9 (by decide)
  have e10 : vs 10 = .int .u32 x2 := hv 10 (by decide)
  have e11 : vs 11 = .slice a n c := hv 11 (by decide)
  have e12 : vs 12 = .slice a4 6 c4 := hv 12 (by decide)
  obtain ⟨b0_13, b1_13, e13, r13_0⟩ := hv 13 (by decide)
  have e14 : vs 14 = .slice a n c := hv 14 (by decide)
  have e15 : vs 15 = .slice a5 4 c5 := hv 15 (by decide)
  have e16 : vs 16 = .int .u64 x3 := hv 16 (by decide)
  have e17 : vs 17 = .int .u32 x3 := hv 17 (by decide)
  obtain ⟨b0_18, b1_18, b2_18, b3_18, e18, r18_0, r18_1⟩ := hv 18 (by decide)
  obtain ⟨b0_19, e19, r19_0, r19_1⟩ := hv 19 (by decide)
  clear hv hap
  simp only [putsT, Nat.zero_add, Nat.reduceAdd, List.getD_cons_zero, List.getD_cons_succ, Act.put, List.setIfInBounds_toArray, List.set_cons_zero, List.set_cons_succ, List.drop_succ_cons, List.drop_zero, e0, e1, e2, e3, e4, e5, e6, e7, e8, e9, e10, e11, e12, e13, e14, e15, e16, e17, e18, e19]
  clear e0 e1 e2 e3 e4 e5 e6 e7 e8 e9 e10 e11 e12 e13 e14 e15 e16 e17 e18 e19
  clear r6_0 r13_0 r1 r2 r3 r4 r5
  have hRz := hR.grew gz
  have Gz := g0.trans gz
  have hRD : R ≠ b0_19 := by have := hR.lt; omega
  generalize b0_19 = D at *
  have hDw : w.heap.size ≤ D := by have := g0.size; omega
  clear hR gz
  have y0 := r19_1.cell 0
  have y1 := r19_1.cell 1
  have y2 := r19_1.cell 2
  have y3 := r19_1.cell 3
  have y4 := r19_1.cell 4
  have f0 := r19_1.free 0
  have f1 := r19_1.free 1
  have f2 := r19_1.free 2
  have f3 := r19_1.free 3
  have f4 := r19_1.free 4
  go_upto_region 4 with fail
  have hD4 := (((((r19_1.set (o := 0) (.int .i64 x1)).set (o := 1) (.slice b0_18 6 b1_18)).set (o := 2) (.int .u32 x2)).set (o := 3) (.slice b2_18 6 b3_18)).set (o := 4) (.int .u32 x3))
  have K4 := (((((BufsKept.box (o := 0) r19_1 (by simp [noU8]) (.int .i64 x1)).trans (BufsKept.box (o := 1) (r19_1.set (o := 0) (.int .i64 x1)) (by simp [noU8]) (.slice b0_18 6 b1_18))).trans (BufsKept.box (o := 2) ((r19_1.set (o := 0) (.int .i64 x1)).set (o := 1) (.slice b0_18 6 b1_18)) (by simp [noU8]) (.int .u32 x2))).trans (BufsKept.box (o := 3) (((r19_1.set (o := 0) (.int .i64 x1)).set (o := 1) (.slice b0_18 6 b1_18)).set (o := 2) (.int .u32 x2)) (by simp [noU8]) (.slice b2_18 6 b3_18))).trans (BufsKept.box (o := 4) ((((r19_1.set (o := 0) (.int .i64 x1)).set (o := 1) (.slice b0_18 6 b1_18)).set (o := 2) (.int .u32 x2)).set (o := 3) (.slice b2_18 6 b3_18)) (by simp [noU8]) (.int .u32 x3)))
  have G4 := (((((Gz.setCell (b := D) (o := 0) (hDw) (.int .i64 x1)).setCell (b := D) (o := 1) (hDw) (.slice b0_18 6 b1_18)).setCell (b := D) (o := 2) (hDw) (.int .u32 x2)).setCell (b := D) (o := 3) (hDw) (.slice b2_18 6 b3_18)).setCell (b := D) (o := 4) (hDw) (.int .u32 x3))
  have hR4 := (((((hRz.other (c := D) (o := 0) hRD (.int .i64 x1)).other (c := D) (o := 1) hRD (.slice b0_18 6 b1_18)).other (c := D) (o := 2) hRD (.int .u32 x2)).other (c := D) (o := 3) hRD (.slice b2_18 6 b3_18)).other (c := D) (o := 4) hRD (.int .u32 x3))
  have b4 := K4 _ _ r18_0
  have c4 := K4 _ _ r18_1
  clear y0 y1 y2 y3 y4 f0 f1 f2 f3 f4 r18_0 r18_1 r19_0 r19_1 K4 hRz Gz
  generalize (((((wz.setCell ⟨D, 0, none⟩ (.int .i64 x1)).setCell ⟨D, 1, none⟩ (.slice b0_18 6 b1_18)).setCell ⟨D, 2, none⟩ (.int .u32 x2)).setCell ⟨D, 3, none⟩ (.slice b2_18 6 b3_18)).setCell ⟨D, 4, none⟩ (.int .u32 x3)) = w4 at *
  replace hD4 : Blk w4 D #[.int .i64 x1, .slice b0_18 6 b1_18, .int .u32 x2, .slice b2_18 6 b3_18, .int .u32 x3] 34 := hD4
  replace hR4 : Blk w4 R #[.int .i64 0, .slice none 0 0, .int .u32 0, .slice none 0 0, .int .u32 0] 34 := hR4
  have hv := Ar.of b4 c4 HI.out.1 HI.out.2.1 HI.out.2.2
  rw [← HF.out] at hv
  have HP := Lib.hid (refPutA16_c hv)
  have HB4 := Lib.hid b4
  have HC4 := Lib.hid c4
  clear hv b4 c4
  have y0 := hD4.cell 0
  have y1 := hD4.cell 1
  have y2 := hD4.cell 2
  have y3 := hD4.cell 3
  have y4 := hD4.cell 4
  go_wp2_with fail
  refine HP.out.mono ?_
  rintro e w5 ⟨u, rfl, hu, g5⟩
  clear y0 y1 y2 y3 y4 HP
  have hD5 := hD4.grew g5
  have hR5 := hR4.grew g5
  have G5 := G4.trans g5
  replace HB4 := Lib.hid (HB4.out.grew g5)
  replace HC4 := Lib.hid (HC4.out.grew g5)
  clear hD4 hR4 G4
  obtain ⟨pu, cu, rfl, _, _⟩ := hu.shape
  obtain ⟨nu, hnu⟩ : ∃ nu, nu = (putAB (arOf xs)).length := ⟨_, rfl⟩
  rw [← hnu] at hu ⊢
  clear hnu
  have y0 := hD5.cell 0
  have y1 := hD5.cell 1
  have y2 := hD5.cell 2
  have y3 := hD5.cell 3
  have y4 := hD5.cell 4
  have q0 := hR5.cell 0
  have q1 := hR5.cell 1
  have q2 := hR5.cell 2
  have q3 := hR5.cell 3
  have q4 := hR5.cell 4
  have f0 := hR5.free 0
  have f1 := hR5.free 1
  have f2 := hR5.free 2
  have f3 := hR5.free 3
  have f4 := hR5.free 4
  cases hO : okA (arOf xs)
  · have hi := HIS.out
    rw [hO] at hi
    have hi' : isA xs = false := hi
    have HA1 : Hid (getAE xs = 161) := Lib.hid (by rw [HAE.out, hi']; rfl)
    have HG1 : Hid (getA xs = zA) := Lib.hid (by rw [HGA.out, hi']; rfl)
    have hpe : putAE (arOf xs) = 2 := by unfold putAE; rw [hO]; rfl
    rw [hpe]
    clear hi hi' hO hpe hu
    go_wp2_with fail
    have E := (((((hR5.set (o := 0) (.int .i64 0)).set (o := 1) (.slice none 0 0)).set (o := 2) (.int .u32 0)).set (o := 3) (.slice none 0 0)).set (o := 4) (.int .u32 0))
    have GE := (((((G5.setCell (b := R) (o := 0) (by omega) (.int .i64 0)).setCell (b := R) (o := 1) (by omega) (.slice none 0 0)).setCell (b := R) (o := 2) (by omega) (.int .u32 0)).setCell (b := R) (o := 3) (by omega) (.slice none 0 0)).setCell (b := R) (o := 4) (by omega) (.int .u32 0))
    have z0 := E.cell 0
    have z1 := E.cell 1
    have z2 := E.cell 2
    have z3 := E.cell 3
    have z4 := E.cell 4
    exact bodyPost_ret (v := .tuple #[.agg #[.int .i64 0, .slice none 0 0, .int .u32 0, .slice none 0 0, .int .u32 0], .int .i64 161]) (by simp [results, Tryd.results18, go_sem, z0, z1, z2, z3, z4]) rfl ⟨.agg #[.int .i64 0, .slice none 0 0, .int .u32 0, .slice none 0 0, .int .u32 0], by rw [HA1.out], by rw [HG1.out]; exact Ar.zero _, GE⟩
  · have hpe : putAE (arOf xs) = 0 := by unfold putAE; rw [hO]; rfl
    have hpb : putAB (arOf xs) = putA (arOf xs) := by unfold putAB; rw [hO]; rfl
    rw [hpe]
    rw [hpb] at hu
    have hsm := sameB_c w5 hu (H6.out.grew G5)
    have hi := HIS.out
    rw [hO, Bool.true_and] at hi
    cases hE : decide (putA (arOf xs) = cutL xs 0 28)
    · rw [hE] at hsm hi
      have HA1 : Hid (getAE xs = 161) := Lib.hid (by rw [HAE.out, hi]; rfl)
      have HG1 : Hid (getA xs = zA) := Lib.hid (by rw [HGA.out, hi]; rfl)
      have HS := Lib.hid hsm
      clear hsm hu hE hi hO hpe hpb
      go_wp2_with fail
      refine HS.out.mono ?_
      rintro e w6 ⟨rfl, h6⟩
      obtain rfl := h6.symm
      go_wp2_with fail
      have E := (((((hR5.set (o := 0) (.int .i64 0)).set (o := 1) (.slice none 0 0)).set (o := 2) (.int .u32 0)).set (o := 3) (.slice none 0 0)).set (o := 4) (.int .u32 0))
      have GE := (((((G5.setCell (b := R) (o := 0) (by omega) (.int .i64 0)).setCell (b := R) (o := 1) (by omega) (.slice none 0 0)).setCell (b := R) (o := 2) (by omega) (.int .u32 0)).setCell (b := R) (o := 3) (by omega) (.slice none 0 0)).setCell (b := R) (o := 4) (by omega) (.int .u32 0))
      have z0 := E.cell 0
      have z1 := E.cell 1
      have z2 := E.cell 2
      have z3 := E.cell 3
      have z4 := E.cell 4
      exact bodyPost_ret (v := .tuple #[.agg #[.int .i64 0, .slice none 0 0, .int .u32 0, .slice none 0 0, .int .u32 0], .int .i64 161]) (by simp [results, Tryd.results18, go_sem, z0, z1, z2, z3, z4]) rfl ⟨.agg #[.int .i64 0, .slice none 0 0, .int .u32 0, .slice none 0 0, .int .u32 0], by rw [HA1.out], by rw [HG1.out]; exact Ar.zero _, GE⟩
    · rw [hE] at hsm hi
      have HA1 : Hid (getAE xs = 0) := Lib.hid (by rw [HAE.out, hi]; rfl)
      have HG1 : Hid (getA xs = arOf xs) := Lib.hid (by rw [HGA.out, hi]; rfl)
      have HS := Lib.hid hsm
      clear hsm hu hE hi hO hpe hpb
      go_wp2_with fail
      refine HS.out.mono ?_
      rintro e w6 ⟨rfl, h6⟩
      obtain rfl := h6.symm
      go_wp2_with fail
      have E := (((((hR5.set (o := 0) (.int .i64 x1)).set (o := 1) (.slice b0_18 6 b1_18)).set (o := 2) (.int .u32 x2)).set (o := 3) (.slice b2_18 6 b3_18)).set (o := 4) (.int .u32 x3))
      have KK := (((((BufsKept.box (o := 0) hR5 (by simp [noU8]) (.int .i64 x1)).trans (BufsKept.box (o := 1) (hR5.set (o := 0) (.int .i64 x1)) (by simp [noU8]) (.slice b0_18 6 b1_18))).trans (BufsKept.box (o := 2) ((hR5.set (o := 0) (.int .i64 x1)).set (o := 1) (.slice b0_18 6 b1_18)) (by simp [noU8]) (.int .u32 x2))).trans (BufsKept.box (o := 3) (((hR5.set (o := 0) (.int .i64 x1)).set (o := 1) (.slice b0_18 6 b1_18)).set (o := 2) (.int .u32 x2)) (by simp [noU8]) (.slice b2_18 6 b3_18))).trans (BufsKept.box (o := 4) ((((hR5.set (o := 0) (.int .i64 x1)).set (o := 1) (.slice b0_18 6 b1_18)).set (o := 2) (.int .u32 x2)).set (o := 3) (.slice b2_18 6 b3_18)) (by simp [noU8]) (.int .u32 x3)))
      have GE := (((((G5.setCell (b := R) (o := 0) (by omega) (.int .i64 x1)).setCell (b := R) (o := 1) (by omega) (.slice b0_18 6 b1_18)).setCell (b := R) (o := 2) (by omega) (.int .u32 x2)).setCell (b := R) (o := 3) (by omega) (.slice b2_18 6 b3_18)).setCell (b := R) (o := 4) (by omega) (.int .u32 x3))
      have z0 := E.cell 0
      have z1 := E.cell 1
      have z2 := E.cell 2
      have z3 := E.cell 3
      have z4 := E.cell 4
      exact bodyPost_ret (v := .tuple #[.agg #[.int .i64 x1, .slice b0_18 6 b1_18, .int .u32 x2, .slice b2_18 6 b3_18, .int .u32 x3], .int .i64 0]) (by simp [results, Tryd.results18, go_sem, z0, z1, z2, z3, z4]) rfl ⟨.agg #[.int .i64 x1, .slice b0_18 6 b1_18, .int .u32 x2, .slice b2_18 6 b3_18, .int .u32 x3], by rw [HA1.out], by rw [HG1.out, HF.out]; exact Ar.of (KK _ _ HB4.out) (KK _ _ HC4.out) HI.out.1 HI.out.2.1 HI.out.2.2, GE⟩
theorem refGetA16_c {v : Value} {xs : List Int} {w : World} (hb : Buf w v xs) :
    Calls Tryd.prog 18 #[v] w fun e w' => ∃ u, e = .returned (.tuple #[u, .int .i64 (getAE xs)]) ∧ Ar w' u (getA xs) ∧ Grew w w' := by
  obtain ⟨a, c, rfl, _, _⟩ := hb.shape
  by_cases h1 : xs.length < 28
  · unfold getA getAE
    rw [if_pos h1, if_pos (Or.inl h1)]
    exact refGetA_short a xs.length c (by omega) w
  · exact refGetA_long a xs.length c xs (by omega) hb
end Go.Proofs.YtolfaelalmmefaaDoor
