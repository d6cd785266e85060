/-
  Package nic: Receive.
-/
import Derived.Test.YtoehdhhodidehaaRows
import Derived.Test.YtoehdhhodidehaaNcU
import Derived.WalkKit
import Derived.Outline
import Derived.Handy
import Derived.StillTailTactics
import Derived.Deep.QuietTactic
import Derived.BigQuiet
import Derived.Deep.DeepCutAuto
import Derived.Deep.RegionHeld3
import Derived.Great.BuildSlice
import Derived.Deep.WholeRow
import Derived.Lib.SliceRun
import Derived.BigFrame
set_option maxRecDepth 4000
set_option linter.unusedVariables false
set_option linter.unusedSimpArgs false
namespace Go.Proofs.Ytoehdhhodidehaa
open Go.RowKit

set_option maxHeartbeats 2000000 in
theorem Receive_no {c : Nat → Int} {m : List Int} {a1 : Option Addr} {j : Nat} {a : Option Addr} {n k : Nat} {xs : List Int} {fa : Option Addr} {fn fm : Nat} {fs : List Int} {w : World} (hN : Buf w (.slice a1 m.length j) m) (hM : Buf w (.slice a n k) xs) (hF : Buf w (.slice fa fn fm) fs) (hl : xs.length ≤ 140737488355328) (hl2 : m.length ≤ 140737488355328) (hc : chkB c m.length = false) : Calls Try.prog 27 #[ncV c (.slice a1 m.length j), .agg #[.slice a n k], .slice fa fn fm] w fun e w' => ∃ a1 k1 a2 n2 k2, e = .returned (.tuple #[ncV c (.slice a1 m.length k1), .agg #[.slice a2 n2 k2], .bool false]) ∧ Hid (Buf w' (.slice a1 m.length k1) m) ∧ Hid (Buf w' (.slice a2 n2 k2) xs) ∧ Grew w w' := by
  have hC := check_c c a1 m.length j
  rw [hc] at hC
  have HC := Lib.hid hC
  have hO := Lib.hid (fun (w : World) (h : Buf w (.slice a1 m.length j) m) => ownN_c (c := c) hl2 h)
  have hOw := Lib.hid (fun (w : World) (h : Buf w (.slice a n k) xs) => ownRam_c hl h)
  have HN := Lib.hid hN
  have HM := Lib.hid hM
  have HK := Lib.hid hN.ok
  have HXO := Lib.hid hM.ok
  clear hC hN hM hl hl2 hc hF
  generalize m.length = nn at *
  go_enter Try.func27, Try.ntmps27
  go_upto_region 1 with fail
  have kN : Blk ((((w.alloc (.cells (ncA c (.slice a1 nn j)) 25)).alloc (.cells #[.slice a n k] 27)).alloc (.cells zeroN 25)).alloc (.cells #[.slice none 0 0] 27)) w.heap.size (ncA c (.slice a1 nn j)) 25 := (((Blk.new w (ncA c (.slice a1 nn j)) 25 _ rfl).alloc (.cells #[.slice a n k] 27)).alloc (.cells zeroN 25)).alloc (.cells #[.slice none 0 0] 27)
  have kM : Blk ((((w.alloc (.cells (ncA c (.slice a1 nn j)) 25)).alloc (.cells #[.slice a n k] 27)).alloc (.cells zeroN 25)).alloc (.cells #[.slice none 0 0] 27)) (w.heap.size + 1) #[.slice a n k] 27 := ((Blk.new (w.alloc (.cells (ncA c (.slice a1 nn j)) 25)) #[.slice a n k] 27 _ (by simp)).alloc (.cells zeroN 25)).alloc (.cells #[.slice none 0 0] 27)
  have kR : Blk ((((w.alloc (.cells (ncA c (.slice a1 nn j)) 25)).alloc (.cells #[.slice a n k] 27)).alloc (.cells zeroN 25)).alloc (.cells #[.slice none 0 0] 27)) (w.heap.size + 2) zeroN 25 := (Blk.new ((w.alloc (.cells (ncA c (.slice a1 nn j)) 25)).alloc (.cells #[.slice a n k] 27)) zeroN 25 _ (by simp)).alloc (.cells #[.slice none 0 0] 27)
  have kQ : Blk ((((w.alloc (.cells (ncA c (.slice a1 nn j)) 25)).alloc (.cells #[.slice a n k] 27)).alloc (.cells zeroN 25)).alloc (.cells #[.slice none 0 0] 27)) (w.heap.size + 3) #[.slice none 0 0] 27 := Blk.new (((w.alloc (.cells (ncA c (.slice a1 nn j)) 25)).alloc (.cells #[.slice a n k] 27)).alloc (.cells zeroN 25)) #[.slice none 0 0] 27 _ (by simp)
  have g0 : Grew w ((((w.alloc (.cells (ncA c (.slice a1 nn j)) 25)).alloc (.cells #[.slice a n k] 27)).alloc (.cells zeroN 25)).alloc (.cells #[.slice none 0 0] 27)) := ((((Grew.refl w).alloc (.cells (ncA c (.slice a1 nn j)) 25)).alloc (.cells #[.slice a n k] 27)).alloc (.cells zeroN 25)).alloc (.cells #[.slice none 0 0] 27)
  generalize ((((w.alloc (.cells (ncA c (.slice a1 nn j)) 25)).alloc (.cells #[.slice a n k] 27)).alloc (.cells zeroN 25)).alloc (.cells #[.slice none 0 0] 27)) = w0 at *
  have lN : w.heap.size ≤ w.heap.size := by omega
  have lM : w.heap.size ≤ (w.heap.size + 1) := by omega
  have lR : w.heap.size ≤ (w.heap.size + 2) := by omega
  have lQ : w.heap.size ≤ (w.heap.size + 3) := by omega
  have nNM : w.heap.size ≠ (w.heap.size + 1) := by omega
  have nNR : w.heap.size ≠ (w.heap.size + 2) := by omega
  have nNQ : w.heap.size ≠ (w.heap.size + 3) := by omega
  have nMN : (w.heap.size + 1) ≠ w.heap.size := by omega
  have nMR : (w.heap.size + 1) ≠ (w.heap.size + 2) := by omega
  have nMQ : (w.heap.size + 1) ≠ (w.heap.size + 3) := by omega
  have nRN : (w.heap.size + 2) ≠ w.heap.size := by omega
  have nRM : (w.heap.size + 2) ≠ (w.heap.size + 1) := by omega
  have nRQ : (w.heap.size + 2) ≠ (w.heap.size + 3) := by omega
  have nQN : (w.heap.size + 3) ≠ w.heap.size := by omega
  have nQM : (w.heap.size + 3) ≠ (w.heap.size + 1) := by omega
  have nQR : (w.heap.size + 3) ≠ (w.heap.size + 2) := by omega
  generalize (w.heap.size + 3) = Q at *
  generalize (w.heap.size + 2) = R at *
  generalize (w.heap.size + 1) = M at *
  generalize hZ : w.heap.size = N at *
  have HZ := Lib.hid hZ
  clear hZ
  have LN : Hid (w.heap.size ≤ N) := Lib.hid (by rw [HZ.out]; exact lN)
  have LM : Hid (w.heap.size ≤ M) := Lib.hid (by rw [HZ.out]; exact lM)
  have LR : Hid (w.heap.size ≤ R) := Lib.hid (by rw [HZ.out]; exact lR)
  have LQ : Hid (w.heap.size ≤ Q) := Lib.hid (by rw [HZ.out]; exact lQ)
  go_wp2_with (refine ld_nc rfl (.tmp 3) rfl _ rfl kN (by rfl) ?_)
  refine (HC.out _).mono ?_
  rintro e w1 ⟨rfl, g1⟩
  have kN1 := kN.grew g1
  have kM1 := kM.grew g1
  have kRc := (kR.grew g1).drew
  have kQc := (kQ.grew g1).drew
  have gc := (g0.trans g1).drew1
  clear kN kM kR kQ g0 g1
  go_upto_region 2 with fail
  refine wp_region_held_drew (S := fun w' => Blk w' N (ncA c (.slice a1 nn j)) 25 ∧ Blk w' M #[.slice a n k] 27) (by kernel_rfl) (⟨kN1.drew, kM1.drew⟩) (fun hHeld => ?_)
  replace hHeld : Blk w1.drew N (ncA c (.slice a1 nn j)) 25 ∧ Blk w1.drew M #[.slice a n k] 27 := hHeld
  generalize w1.drew = wq0 at *
  refine wpAnyH_take (i := 0) (v := (ncV c (.slice a1 nn j))) rfl (by kernel_rfl) (by kernel_rfl) (by kernel_rfl) (fun _ _ _ h => h) (yl_nc rfl (by rfl) (by rfl) fun _ h => h.1) hHeld ?_
  try simp only [List.getElem_toArray, List.getElem_cons_succ, List.getElem_cons_zero, Act.put, List.setIfInBounds_toArray, List.set_cons_zero, List.set_cons_succ]
  refine wpAnyH_take (i := 2) (v := ?_) rfl (by kernel_rfl) (by kernel_rfl) (by kernel_rfl) (fun _ _ _ h => h) (Or.inl ⟨by rfl, ?_⟩) hHeld ?_
  rotate_left
  · intro wq hSw
    replace hSw : Blk wq N (ncA c (.slice a1 nn j)) 25 ∧ Blk wq M #[.slice a n k] 27 := hSw
    have y0 := hSw.2.cell 0
    go_simp
    try with_reducible rfl
  try simp only [List.getElem_toArray, List.getElem_cons_succ, List.getElem_cons_zero, Act.put, List.setIfInBounds_toArray, List.set_cons_zero, List.set_cons_succ]
  refine wpAnyH_ready (rs := [1]) (by kernel_rfl) (by simp) ?_
  refine AllReadyH.cons rfl (fun K hK => ?_) AllReadyH.nil
  go_simp
  refine Calls.mono (hO.out _ (HN.out.grew gc)) ?_
  rintro e wa ⟨b1, i1, rfl, H1, ga⟩
  have H1' := Lib.hid (H1.out.buf HK.out)
  clear H1
  refine hK.out _ _ (⟨hHeld.1.grew ga, hHeld.2.grew ga⟩) (fun hHeld => ?_)
  clear hK K
  replace kRc := kRc.grew ga
  replace kQc := kQc.grew ga
  replace gc := gc.trans ga
  try simp only [List.getElem_toArray, List.getElem_cons_succ, List.getElem_cons_zero, Act.put, List.setIfInBounds_toArray, List.set_cons_zero, List.set_cons_succ]
  refine wpAnyH_ready (rs := [3]) (by kernel_rfl) (by simp) ?_
  refine AllReadyH.cons rfl (fun K hK => ?_) AllReadyH.nil
  go_simp
  refine Calls.mono (hOw.out _ (HM.out.grew gc)) ?_
  rintro e wb ⟨b2, i2, rfl, H2, gb⟩
  have H2' := Lib.hid (H2.out.buf HXO.out)
  clear H2
  refine hK.out _ _ (⟨hHeld.1.grew gb, hHeld.2.grew gb⟩) (fun hHeld => ?_)
  clear hK K
  replace kRc := kRc.grew gb
  replace kQc := kQc.grew gb
  replace gc := gc.trans gb
  replace H1' := Lib.hid (H1'.out.grew gb)
  try simp only [List.getElem_toArray, List.getElem_cons_succ, List.getElem_cons_zero, Act.put, List.setIfInBounds_toArray, List.set_cons_zero, List.set_cons_succ]
  refine wpAnyH_ready (rs := [4]) (by kernel_rfl) (by simp) ?_
  refine AllReadyH.cons rfl (fun K hK => ?_) AllReadyH.nil
  refine step_st_nc rfl (.tmp 6) (.tmp 16) rfl rfl c kRc rfl (by rfl) (by rfl) ⟨_, _, _, rfl⟩ ?_
  intro wd kRd od
  refine hK.out _ _ (⟨hHeld.1.only od nNR, hHeld.2.only od nMR⟩) (fun hHeld => ?_)
  clear hK K
  have kQd := kQc.only od nQR
  have H1d := Lib.hid (H1'.out.only od kRc nb_zn)
  have H2d := Lib.hid (H2'.out.only od kRc nb_zn)
  have gd : Grew w wd := od.grew gc LR.out
  clear kRc kQc H1' H2' gc od
  try simp only [List.getElem_toArray, List.getElem_cons_succ, List.getElem_cons_zero, Act.put, List.setIfInBounds_toArray, List.set_cons_zero, List.set_cons_succ]
  refine wpAnyH_ready (rs := [5]) (by kernel_rfl) (by simp) ?_
  refine AllReadyH.cons rfl (fun K hK => ?_) AllReadyH.nil
  have z0 := kQd.cell 0
  have f0 := kQd.free 0
  go_simp
  have oe := Only.set wd Q 0 (.slice b2 xs.length i2)
  have kQe : Blk (wd.setCell ⟨Q, 0, none⟩ (.slice b2 xs.length i2)) Q #[.slice b2 xs.length i2] 27 := kQd.set (o := 0) (.slice b2 xs.length i2)
  have kRe := kRd.only oe nRQ
  have H1e := Lib.hid (H1d.out.store kQd (.slice b2 xs.length i2))
  have H2e := Lib.hid (H2d.out.store kQd (.slice b2 xs.length i2))
  have ge : Grew w _ := oe.grew gd LQ.out
  refine hK.out _ _ (⟨hHeld.1.only oe nNQ, hHeld.2.only oe nMQ⟩) (fun hHeld => ?_)
  clear hK K
  clear z0 f0 kQd kRd H1d H2d gd oe
  generalize (wd.setCell ⟨Q, 0, none⟩ (.slice b2 xs.length i2)) = we at *
  try simp only [List.getElem_toArray, List.getElem_cons_succ, List.getElem_cons_zero, Act.put, List.setIfInBounds_toArray, List.set_cons_zero, List.set_cons_succ]
  refine wpAnyH_take (i := 6) (v := ?_) rfl (by kernel_rfl) (by kernel_rfl) (by kernel_rfl) (fun _ _ _ h => h) (Or.inl ⟨by rfl, ?_⟩) hHeld ?_
  rotate_left
  · intro wq hSw
    replace hSw : Blk wq N (ncA c (.slice a1 nn j)) 25 ∧ Blk wq M #[.slice a n k] 27 := hSw
    go_simp
    try with_reducible rfl
  try simp only [List.getElem_toArray, List.getElem_cons_succ, List.getElem_cons_zero, Act.put, List.setIfInBounds_toArray, List.set_cons_zero, List.set_cons_succ]
  refine wpAnyH_done (by kernel_rfl) ?_ _
  try simp only [List.getElem_toArray, List.getElem_cons_succ, List.getElem_cons_zero, Act.put, List.setIfInBounds_toArray, List.set_cons_zero, List.set_cons_succ]
  go_wp2_with fail
  exact bodyPost_ret (v := .tuple #[ncV c (.slice b1 nn i1), .agg #[.slice b2 xs.length i2], .bool false]) (results_3 (p := 6) (q := 7) (r := 8) Try.results27 _ _ R Q kRe kQe rfl rfl) rfl ⟨_, _, _, _, _, rfl, H1e, H2e, ge⟩
set_option maxHeartbeats 2000000 in
theorem Receive_yes {c : Nat → Int} {m : List Int} {a1 : Option Addr} {j : Nat} {a : Option Addr} {n k : Nat} {xs : List Int} {fa : Option Addr} {fn fm : Nat} {fs : List Int} {w : World} (hN : Buf w (.slice a1 m.length j) m) (hM : Buf w (.slice a n k) xs) (hF : Buf w (.slice fa fn fm) fs) (hl : xs.length ≤ 140737488355328) (h6 : m.length = 6) (hc : ROk c) (hm : MacIs c m) : Calls Try.prog 27 #[ncV c (.slice a1 6 j), .agg #[.slice a n k], .slice fa fn fm] w fun e w' => ∃ a1 k1 a2 n2 k2, e = .returned (.tuple #[ncV (recvR c xs fs).c (.slice a1 6 k1), .agg #[.slice a2 n2 k2], .bool (recvR c xs fs).b]) ∧ Hid (Buf w' (.slice a1 6 k1) m) ∧ Hid (Buf w' (.slice a2 n2 k2) (recvR c xs fs).xs) ∧ Grew w w' := by
  have hC := check_c c a1 6 j
  rw [ok_chk hc] at hC
  have HC := Lib.hid hC
  rw [h6] at hN
  have hTa := Lib.hid (fun (w : World) (h : Buf w (.slice a1 6 j) m) => taken_c hm hc.rg h)
  have hSe := Lib.hid (fun (w : World) (p : Nat) (h : Blk w p (rgA c) 80) (h2 : Buf w (.slice a n k) xs) (h3 : Buf w (.slice fa fn fm) fs) => recv_c h h2 hl h3 hc)
  have hc2 := hc.recv xs fs
  have hi2 : MacIs (recvR c xs fs).c m := ⟨hm.1, by rw [recvR_13]; exact hm.2.1, by rw [recvR_14]; exact hm.2.2⟩
  have hme := Lib.hid (hi2.mac hN.ok)
  have hNi := Lib.hid (fun (w : World) (p : Nat) (h : Blk w p (rgA (recvR c xs fs).c) 80) => nic_c h hc2.rg)
  generalize (recvR c xs fs).c = c2 at *
  generalize (recvR c xs fs).xs = ys at *
  generalize (recvR c xs fs).b = ok at *
  have HN := Lib.hid hN
  have HM := Lib.hid hM
  have HK := Lib.hid hN.ok
  have HF := Lib.hid hF
  clear hF
  clear hC hN hM hl hc hm h6 hc2 hi2
  go_enter Try.func27, Try.ntmps27
  go_upto_region 1 with fail
  have kN : Blk ((((w.alloc (.cells (ncA c (.slice a1 6 j)) 25)).alloc (.cells #[.slice a n k] 27)).alloc (.cells zeroN 25)).alloc (.cells #[.slice none 0 0] 27)) w.heap.size (ncA c (.slice a1 6 j)) 25 := (((Blk.new w (ncA c (.slice a1 6 j)) 25 _ rfl).alloc (.cells #[.slice a n k] 27)).alloc (.cells zeroN 25)).alloc (.cells #[.slice none 0 0] 27)
  have kM : Blk ((((w.alloc (.cells (ncA c (.slice a1 6 j)) 25)).alloc (.cells #[.slice a n k] 27)).alloc (.cells zeroN 25)).alloc (.cells #[.slice none 0 0] 27)) (w.heap.size + 1) #[.slice a n k] 27 := ((Blk.new (w.alloc (.cells (ncA c (.slice a1 6 j)) 25)) #[.slice a n k] 27 _ (by simp)).alloc (.cells zeroN 25)).alloc (.cells #[.slice none 0 0] 27)
  have kR : Blk ((((w.alloc (.cells (ncA c (.slice a1 6 j)) 25)).alloc (.cells #[.slice a n k] 27)).alloc (.cells zeroN 25)).alloc (.cells #[.slice none 0 0] 27)) (w.heap.size + 2) zeroN 25 := (Blk.new ((w.alloc (.cells (ncA c (.slice a1 6 j)) 25)).alloc (.cells #[.slice a n k] 27)) zeroN 25 _ (by simp)).alloc (.cells #[.slice none 0 0] 27)
  have kQ : Blk ((((w.alloc (.cells (ncA c (.slice a1 6 j)) 25)).alloc (.cells #[.slice a n k] 27)).alloc (.cells zeroN 25)).alloc (.cells #[.slice none 0 0] 27)) (w.heap.size + 3) #[.slice none 0 0] 27 := Blk.new (((w.alloc (.cells (ncA c (.slice a1 6 j)) 25)).alloc (.cells #[.slice a n k] 27)).alloc (.cells zeroN 25)) #[.slice none 0 0] 27 _ (by simp)
  have g0 : Grew w ((((w.alloc (.cells (ncA c (.slice a1 6 j)) 25)).alloc (.cells #[.slice a n k] 27)).alloc (.cells zeroN 25)).alloc (.cells #[.slice none 0 0] 27)) := ((((Grew.refl w).alloc (.cells (ncA c (.slice a1 6 j)) 25)).alloc (.cells #[.slice a n k] 27)).alloc (.cells zeroN 25)).alloc (.cells #[.slice none 0 0] 27)
  generalize ((((w.alloc (.cells (ncA c (.slice a1 6 j)) 25)).alloc (.cells #[.slice a n k] 27)).alloc (.cells zeroN 25)).alloc (.cells #[.slice none 0 0] 27)) = w0 at *
  have lN : w.heap.size ≤ w.heap.size := by omega
  have lM : w.heap.size ≤ (w.heap.size + 1) := by omega
  have lR : w.heap.size ≤ (w.heap.size + 2) := by omega
  have lQ : w.heap.size ≤ (w.heap.size + 3) := by omega
  have nNM : w.heap.size ≠ (w.heap.size + 1) := by omega
  have nNR : w.heap.size ≠ (w.heap.size + 2) := by omega
  have nNQ : w.heap.size ≠ (w.heap.size + 3) := by omega
  have nMN : (w.heap.size + 1) ≠ w.heap.size := by omega
  have nMR : (w.heap.size + 1) ≠ (w.heap.size + 2) := by omega
  have nMQ : (w.heap.size + 1) ≠ (w.heap.size + 3) := by omega
  have nRN : (w.heap.size + 2) ≠ w.heap.size := by omega
  have nRM : (w.heap.size + 2) ≠ (w.heap.size + 1) := by omega
  have nRQ : (w.heap.size + 2) ≠ (w.heap.size + 3) := by omega
  have nQN : (w.heap.size + 3) ≠ w.heap.size := by omega
  have nQM : (w.heap.size + 3) ≠ (w.heap.size + 1) := by omega
  have nQR : (w.heap.size + 3) ≠ (w.heap.size + 2) := by omega
  generalize (w.heap.size + 3) = Q at *
  generalize (w.heap.size + 2) = R at *
  generalize (w.heap.size + 1) = M at *
  generalize hZ : w.heap.size = N at *
  have HZ := Lib.hid hZ
  clear hZ
  have LN : Hid (w.heap.size ≤ N) := Lib.hid (by rw [HZ.out]; exact lN)
  have LM : Hid (w.heap.size ≤ M) := Lib.hid (by rw [HZ.out]; exact lM)
  have LR : Hid (w.heap.size ≤ R) := Lib.hid (by rw [HZ.out]; exact lR)
  have LQ : Hid (w.heap.size ≤ Q) := Lib.hid (by rw [HZ.out]; exact lQ)
  go_wp2_with (refine ld_nc rfl (.tmp 3) rfl _ rfl kN (by rfl) ?_)
  refine (HC.out _).mono ?_
  rintro e w1 ⟨rfl, g1⟩
  have kN1 := kN.grew g1
  go_upto_region 3 with fail
  go_wp2_with (refine ld_nc rfl (.tmp 3) rfl _ rfl kN1 (by rfl) ?_)
  refine (hTa.out _ (HN.out.grew (g0.trans g1))).mono ?_
  rintro e w2 ⟨p, rfl, hp, hP, ga⟩
  have g2 := (g0.trans g1).trans ga
  have kM2 := kM.grew (g1.trans ga)
  have kR2 := kR.grew (g1.trans ga)
  have kQ2 := kQ.grew (g1.trans ga)
  have s1 := g1.size
  have lM0 := kM.lt
  have lR0 := kR.lt
  have lQ0 := kQ.lt
  have lN0 := kN.lt
  clear kM kR kQ kN kN1 g0 g1 ga
  have y0 := kM2.cell 0
  go_upto_region 4 with fail
  go_wp2_with fail
  refine (hSe.out _ _ hP (HM.out.grew g2) (HF.out.grew g2)).mono ?_
  rintro e ws ⟨b2, n2, i2, rfl, H2, hBs, ts⟩
  have kR3 := kR2.trn ts (by omega)
  have kQ3 := kQ2.trn ts (by omega)
  have g3 : Grew w ws := ts.grew g2 (by have := LN.out; omega)
  clear y0 kM2 kR2 kQ2 g2 ts hP
  have hnx : R < ws.heap.size ∧ Q < ws.heap.size ∧ N < ws.heap.size := ⟨kR3.lt, kQ3.lt, by have := kR3.lt; omega⟩
  have hpx := hBs.lt
  go_upto_region 5 with (refine al_rm rfl rfl ?_; intro wx kX gX; have yX := kX.cell 0; have fX := kX.free 0)
  have sX := gX.size
  clear yX fX
  have lX := kX.lt
  generalize ws.heap.size = X at *
  have kX2 : Blk (wx.setCell ⟨X, 0, none⟩ (.slice b2 n2 i2)) X #[.slice b2 n2 i2] 27 := kX.set (o := 0) (.slice b2 n2 i2)
  have oX := Only.set wx X 0 (.slice b2 n2 i2)
  have kRc := (kR3.grew gX).only oX (by omega)
  have kQc := (kQ3.grew gX).only oX (by omega)
  have hBc := (hBs.grew gX).only oX (by omega)
  have H2c := Lib.hid ((H2.out.grew gX).store kX (.slice b2 n2 i2))
  have gc : Grew w _ := oX.grew (g3.trans gX) (by have := LR.out; omega)
  clear kR3 kQ3 hBs H2 g3 kX oX gX
  generalize (wx.setCell ⟨X, 0, none⟩ (.slice b2 n2 i2)) = wy at *
  replace kRc := kRc.drew
  replace kQc := kQc.drew
  replace hBc := hBc.drew
  replace H2c := Lib.hid H2c.out.drew
  replace gc := gc.drew1
  refine wp_region_held_drew (S := fun w' => Blk w' X #[.slice b2 n2 i2] 27) (by kernel_rfl) (kX2.drew) (fun hHeld => ?_)
  replace hHeld : Blk wy.drew X #[.slice b2 n2 i2] 27 := hHeld
  generalize wy.drew = wq0 at *
  refine wpAnyH_take (i := 0) (v := ?_) rfl (by kernel_rfl) (by kernel_rfl) (by kernel_rfl) (fun _ _ _ h => h) (Or.inl ⟨by rfl, ?_⟩) hHeld ?_
  rotate_left
  · intro wq hSw
    replace hSw : Blk wq X #[.slice b2 n2 i2] 27 := hSw
    go_simp
    try with_reducible rfl
  try simp only [List.getElem_toArray, List.getElem_cons_succ, List.getElem_cons_zero, Act.put, List.setIfInBounds_toArray, List.set_cons_zero, List.set_cons_succ]
  refine wpAnyH_take (i := 2) (v := ?_) rfl (by kernel_rfl) (by kernel_rfl) (by kernel_rfl) (fun _ _ _ h => h) (Or.inl ⟨by rfl, ?_⟩) hHeld ?_
  rotate_left
  · intro wq hSw
    replace hSw : Blk wq X #[.slice b2 n2 i2] 27 := hSw
    have y0 := hSw.cell 0
    go_simp
    try with_reducible rfl
  try simp only [List.getElem_toArray, List.getElem_cons_succ, List.getElem_cons_zero, Act.put, List.setIfInBounds_toArray, List.set_cons_zero, List.set_cons_succ]
  refine wpAnyH_take (i := 3) (v := ?_) rfl (by kernel_rfl) (by kernel_rfl) (by kernel_rfl) (fun _ _ _ h => h) (Or.inl ⟨by rfl, ?_⟩) hHeld ?_
  rotate_left
  · intro wq hSw
    replace hSw : Blk wq X #[.slice b2 n2 i2] 27 := hSw
    go_simp
    try with_reducible rfl
  try simp only [List.getElem_toArray, List.getElem_cons_succ, List.getElem_cons_zero, Act.put, List.setIfInBounds_toArray, List.set_cons_zero, List.set_cons_succ]
  refine wpAnyH_ready (rs := [1]) (by kernel_rfl) (by simp) ?_
  refine AllReadyH.cons rfl (fun K hK => ?_) AllReadyH.nil
  go_simp
  refine Calls.mono (hNi.out _ _ hBc) ?_
  rintro e wa ⟨b1, i1, rfl, H1, ga⟩
  rw [hme.out] at H1
  have H1' := Lib.hid (H1.out.buf HK.out)
  clear H1
  refine hK.out _ _ (hHeld.grew ga) (fun hHeld => ?_)
  clear hK K
  replace kRc := kRc.grew ga
  replace kQc := kQc.grew ga
  replace gc := gc.trans ga
  replace H2c := Lib.hid (H2c.out.grew ga)
  try simp only [List.getElem_toArray, List.getElem_cons_succ, List.getElem_cons_zero, Act.put, List.setIfInBounds_toArray, List.set_cons_zero, List.set_cons_succ]
  refine wpAnyH_ready (rs := [4]) (by kernel_rfl) (by simp) ?_
  refine AllReadyH.cons rfl (fun K hK => ?_) AllReadyH.nil
  refine step_st_nc rfl (.tmp 6) (.tmp 29) rfl rfl c2 kRc rfl (by rfl) (by rfl) ⟨_, _, _, rfl⟩ ?_
  intro wd kRd od
  refine hK.out _ _ (hHeld.only od (by omega)) (fun hHeld => ?_)
  clear hK K
  have kQd := kQc.only od nQR
  have H1d := Lib.hid (H1'.out.only od kRc nb_zn)
  have H2d := Lib.hid (H2c.out.only od kRc nb_zn)
  have gd : Grew w wd := od.grew gc LR.out
  clear kRc kQc H1' H2c gc od
  try simp only [List.getElem_toArray, List.getElem_cons_succ, List.getElem_cons_zero, Act.put, List.setIfInBounds_toArray, List.set_cons_zero, List.set_cons_succ]
  refine wpAnyH_ready (rs := [5]) (by kernel_rfl) (by simp) ?_
  refine AllReadyH.cons rfl (fun K hK => ?_) AllReadyH.nil
  have z0 := kQd.cell 0
  have f0 := kQd.free 0
  go_simp
  have oe := Only.set wd Q 0 (.slice b2 n2 i2)
  have kQe : Blk (wd.setCell ⟨Q, 0, none⟩ (.slice b2 n2 i2)) Q #[.slice b2 n2 i2] 27 := kQd.set (o := 0) (.slice b2 n2 i2)
  have kRe := kRd.only oe nRQ
  have H1e := Lib.hid (H1d.out.store kQd (.slice b2 n2 i2))
  have H2e := Lib.hid (H2d.out.store kQd (.slice b2 n2 i2))
  have ge : Grew w _ := oe.grew gd LQ.out
  refine hK.out _ _ (hHeld.only oe (by omega)) (fun hHeld => ?_)
  clear hK K
  clear z0 f0 kQd kRd H1d H2d gd oe
  generalize (wd.setCell ⟨Q, 0, none⟩ (.slice b2 n2 i2)) = we at *
  try simp only [List.getElem_toArray, List.getElem_cons_succ, List.getElem_cons_zero, Act.put, List.setIfInBounds_toArray, List.set_cons_zero, List.set_cons_succ]
  refine wpAnyH_take (i := 6) (v := ?_) rfl (by kernel_rfl) (by kernel_rfl) (by kernel_rfl) (fun _ _ _ h => h) (Or.inl ⟨by rfl, ?_⟩) hHeld ?_
  rotate_left
  · intro wq hSw
    replace hSw : Blk wq X #[.slice b2 n2 i2] 27 := hSw
    go_simp
    try with_reducible rfl
  try simp only [List.getElem_toArray, List.getElem_cons_succ, List.getElem_cons_zero, Act.put, List.setIfInBounds_toArray, List.set_cons_zero, List.set_cons_succ]
  refine wpAnyH_done (by kernel_rfl) ?_ _
  try simp only [List.getElem_toArray, List.getElem_cons_succ, List.getElem_cons_zero, Act.put, List.setIfInBounds_toArray, List.set_cons_zero, List.set_cons_succ]
  go_wp2_with fail
  exact bodyPost_ret (v := .tuple #[ncV c2 (.slice b1 6 i1), .agg #[.slice b2 n2 i2], .bool ok]) (results_3 (p := 6) (q := 7) (r := 8) Try.results27 _ _ R Q kRe kQe rfl rfl) rfl ⟨_, _, _, _, _, rfl, H1e, H2e, ge⟩
theorem Receive_c {c : Nat → Int} {m : List Int} {a1 : Option Addr} {j : Nat} {a : Option Addr} {n k : Nat} {xs : List Int} {fa : Option Addr} {fn fm : Nat} {fs : List Int} {w : World} (hm : MacOf c m) (hN : Buf w (.slice a1 m.length j) m) (hM : Buf w (.slice a n k) xs) (hF : Buf w (.slice fa fn fm) fs) (hl : xs.length ≤ 140737488355328) (hl2 : m.length ≤ 140737488355328) : Calls Try.prog 27 #[ncV c (.slice a1 m.length j), .agg #[.slice a n k], .slice fa fn fm] w fun e w' => ∃ a1 k1 a2 n2 k2, e = .returned (.tuple #[ncV (recvS c m.length xs fs).c (.slice a1 m.length k1), .agg #[.slice a2 n2 k2], .bool (recvS c m.length xs fs).b]) ∧ Hid (Buf w' (.slice a1 m.length k1) m) ∧ Hid (Buf w' (.slice a2 n2 k2) (recvS c m.length xs fs).xs) ∧ Grew w w' := by
  unfold recvS
  cases hb : chkB c m.length
  · exact Receive_no hN hM hF hl hl2 hb
  · obtain ⟨hc, hi⟩ := chk_ok hm hN.ok hb
    have h6 := hi.1
    have := Receive_yes hN hM hF hl h6 hc hi
    rw [h6]
    exact this
end Go.Proofs.Ytoehdhhodidehaa
