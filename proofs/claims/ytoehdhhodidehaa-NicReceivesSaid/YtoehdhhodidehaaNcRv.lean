/-
  The document's own Receive, as far as it drops the frame and leaves memory as it was.
-/
import Derived.Test.YtoehdhhodidehaaRows
import Derived.Test.YtoehdhhodidehaaNcRs
import Derived.Test.YtoehdhhodidehaaNcRb
import Derived.Test.YtoehdhhodidehaaNcV
import Derived.Test.YtoehdhhodidehaaNcZ
import Derived.WalkKit
import Derived.Outline
import Derived.Handy
import Derived.StillTailTactics
import Derived.Deep.QuietTactic
import Derived.BigQuiet
import Derived.Deep.DeepCutAuto
import Derived.Deep.RegionHeld3
import Derived.Great.BuildSlice
import Derived.Deep.WholeRow
import Derived.Lib.SliceRun
import Derived.BigFrame
set_option maxRecDepth 4000
set_option linter.unusedVariables false
set_option linter.unusedSimpArgs false
namespace Go.Proofs.Ytoehdhhodidehaa
open Go.RowKit

set_option maxHeartbeats 2000000 in
theorem rRecv_no {c : Nat → Int} {m : List Int} {a1 : Option Addr} {j : Nat} {a : Option Addr} {n k : Nat} {xs : List Int} {fa : Option Addr} {fk : Nat} {fs : List Int} {w : World} (hN : Buf w (.slice a1 m.length j) m) (hM : Buf w (.slice a n k) xs) (hF : Buf w (.slice fa fs.length fk) fs) (hl : xs.length ≤ 140737488355328) (hc : chkB c m.length = false) : Calls Try.prog 28 #[ncV c (.slice a1 m.length j), .agg #[.slice a n k], .slice fa fs.length fk] w fun e w' => ∃ a1 k1 a2 n2 k2, e = .returned (.tuple #[ncV c (.slice a1 m.length k1), .agg #[.slice a2 n2 k2], .bool false]) ∧ Hid (Buf w' (.slice a1 m.length k1) m) ∧ Hid (Buf w' (.slice a2 n2 k2) xs) ∧ Grew w w' := by
  have hC := rCheck_c c a1 m.length j
  rw [hc] at hC
  have HC := Lib.hid hC
  have HN := Lib.hid hN
  have HM := Lib.hid hM
  have HF := Lib.hid hF
  clear hC hN hM hF hl hc
  generalize m.length = nn at *
  generalize fs.length = fl at *
  go_enter Try.func28, Try.ntmps28
  go_upto_region 1 with fail
  have kN : Blk ((((w.alloc (.cells (ncA c (.slice a1 nn j)) 25)).alloc (.cells #[.slice a n k] 27)).alloc (.cells zeroN 25)).alloc (.cells #[.slice none 0 0] 27)) w.heap.size (ncA c (.slice a1 nn j)) 25 := (((Blk.new w (ncA c (.slice a1 nn j)) 25 _ rfl).alloc (.cells #[.slice a n k] 27)).alloc (.cells zeroN 25)).alloc (.cells #[.slice none 0 0] 27)
  have kM : Blk ((((w.alloc (.cells (ncA c (.slice a1 nn j)) 25)).alloc (.cells #[.slice a n k] 27)).alloc (.cells zeroN 25)).alloc (.cells #[.slice none 0 0] 27)) (w.heap.size + 1) #[.slice a n k] 27 := ((Blk.new (w.alloc (.cells (ncA c (.slice a1 nn j)) 25)) #[.slice a n k] 27 _ (by simp)).alloc (.cells zeroN 25)).alloc (.cells #[.slice none 0 0] 27)
  have kR : Blk ((((w.alloc (.cells (ncA c (.slice a1 nn j)) 25)).alloc (.cells #[.slice a n k] 27)).alloc (.cells zeroN 25)).alloc (.cells #[.slice none 0 0] 27)) (w.heap.size + 2) zeroN 25 := (Blk.new ((w.alloc (.cells (ncA c (.slice a1 nn j)) 25)).alloc (.cells #[.slice a n k] 27)) zeroN 25 _ (by simp)).alloc (.cells #[.slice none 0 0] 27)
  have kQ : Blk ((((w.alloc (.cells (ncA c (.slice a1 nn j)) 25)).alloc (.cells #[.slice a n k] 27)).alloc (.cells zeroN 25)).alloc (.cells #[.slice none 0 0] 27)) (w.heap.size + 3) #[.slice none 0 0] 27 := Blk.new (((w.alloc (.cells (ncA c (.slice a1 nn j)) 25)).alloc (.cells #[.slice a n k] 27)).alloc (.cells zeroN 25)) #[.slice none 0 0] 27 _ (by simp)
  have g0 : Grew w ((((w.alloc (.cells (ncA c (.slice a1 nn j)) 25)).alloc (.cells #[.slice a n k] 27)).alloc (.cells zeroN 25)).alloc (.cells #[.slice none 0 0] 27)) := ((((Grew.refl w).alloc (.cells (ncA c (.slice a1 nn j)) 25)).alloc (.cells #[.slice a n k] 27)).alloc (.cells zeroN 25)).alloc (.cells #[.slice none 0 0] 27)
  generalize ((((w.alloc (.cells (ncA c (.slice a1 nn j)) 25)).alloc (.cells #[.slice a n k] 27)).alloc (.cells zeroN 25)).alloc (.cells #[.slice none 0 0] 27)) = w0 at *
  have lN : w.heap.size ≤ w.heap.size := by omega
  have lM : w.heap.size ≤ (w.heap.size + 1) := by omega
  have lR : w.heap.size ≤ (w.heap.size + 2) := by omega
  have lQ : w.heap.size ≤ (w.heap.size + 3) := by omega
  have nNM : w.heap.size ≠ (w.heap.size + 1) := by omega
  have nNR : w.heap.size ≠ (w.heap.size + 2) := by omega
  have nNQ : w.heap.size ≠ (w.heap.size + 3) := by omega
  have nMN : (w.heap.size + 1) ≠ w.heap.size := by omega
  have nMR : (w.heap.size + 1) ≠ (w.heap.size + 2) := by omega
  have nMQ : (w.heap.size + 1) ≠ (w.heap.size + 3) := by omega
  have nRN : (w.heap.size + 2) ≠ w.heap.size := by omega
  have nRM : (w.heap.size + 2) ≠ (w.heap.size + 1) := by omega
  have nRQ : (w.heap.size + 2) ≠ (w.heap.size + 3) := by omega
  have nQN : (w.heap.size + 3) ≠ w.heap.size := by omega
  have nQM : (w.heap.size + 3) ≠ (w.heap.size + 1) := by omega
  have nQR : (w.heap.size + 3) ≠ (w.heap.size + 2) := by omega
  generalize (w.heap.size + 3) = Q at *
  generalize (w.heap.size + 2) = R at *
  generalize (w.heap.size + 1) = M at *
  generalize hZ : w.heap.size = N at *
  have HZ := Lib.hid hZ
  clear hZ
  have LN : Hid (w.heap.size ≤ N) := Lib.hid (by rw [HZ.out]; exact lN)
  have LM : Hid (w.heap.size ≤ M) := Lib.hid (by rw [HZ.out]; exact lM)
  have LR : Hid (w.heap.size ≤ R) := Lib.hid (by rw [HZ.out]; exact lR)
  have LQ : Hid (w.heap.size ≤ Q) := Lib.hid (by rw [HZ.out]; exact lQ)
  go_wp2_with (refine ld_nc rfl (.tmp 3) rfl _ rfl kN (by rfl) ?_)
  refine (HC.out _).mono ?_
  rintro e w1 ⟨rfl, g1⟩
  have kN1 := kN.grew g1
  have kM1 := kM.grew g1
  have kR1 := kR.grew g1
  have kQ1 := kQ.grew g1
  replace g1 := g0.trans g1
  clear kN kM kR kQ g0
  go_upto_region 2 with fail
  have kRc := kR1.drew
  have kQc := kQ1.drew
  have gc := g1.drew1
  clear kR1 kQ1 g1
  refine wp_region_held_drew (S := fun w' => Blk w' N (ncA c (.slice a1 nn j)) 25 ∧ Blk w' M #[.slice a n k] 27) (by kernel_rfl) (⟨kN1.drew, kM1.drew⟩) (fun hHeld => ?_)
  replace hHeld : Blk w1.drew N (ncA c (.slice a1 nn j)) 25 ∧ Blk w1.drew M #[.slice a n k] 27 := hHeld
  generalize w1.drew = wq0 at *
  refine wpAnyH_take (i := 0) (v := (ncV c (.slice a1 nn j))) rfl (by kernel_rfl) (by kernel_rfl) (by kernel_rfl) (fun _ _ _ h => h) (yl_nc rfl (by rfl) (by rfl) fun _ h => h.1) hHeld ?_
  try simp only [List.getElem_toArray, List.getElem_cons_succ, List.getElem_cons_zero, Act.put, List.setIfInBounds_toArray, List.set_cons_zero, List.set_cons_succ]
  refine wpAnyH_take (i := 1) (v := (.agg #[.slice a n k])) rfl (by kernel_rfl) (by kernel_rfl) (by kernel_rfl) (fun _ _ _ h => h) (yl_rm rfl (by rfl) (by rfl) fun _ h => h.2) hHeld ?_
  try simp only [List.getElem_toArray, List.getElem_cons_succ, List.getElem_cons_zero, Act.put, List.setIfInBounds_toArray, List.set_cons_zero, List.set_cons_succ]
  refine wpAnyH_ready (rs := [2]) (by kernel_rfl) (by simp) ?_
  refine AllReadyH.cons rfl (fun K hK => ?_) AllReadyH.nil
  refine step_st_nc rfl (.tmp 6) (.tmp 19) rfl rfl c kRc rfl (by rfl) (by rfl) ⟨_, _, _, rfl⟩ ?_
  intro wd kRd od
  refine hK.out _ _ (⟨hHeld.1.only od nNR, hHeld.2.only od nMR⟩) (fun hHeld => ?_)
  clear hK K
  have kQd := kQc.only od nQR
  have gd : Grew w wd := od.grew gc LR.out
  clear kRc kQc gc od
  try simp only [List.getElem_toArray, List.getElem_cons_succ, List.getElem_cons_zero, Act.put, List.setIfInBounds_toArray, List.set_cons_zero, List.set_cons_succ]
  refine wpAnyH_ready (rs := [3]) (by kernel_rfl) (by simp) ?_
  refine AllReadyH.cons rfl (fun K hK => ?_) AllReadyH.nil
  refine step_st_rm rfl (.tmp 7) (.tmp 20) rfl rfl kQd rfl (by rfl) (by rfl) ⟨_, _, _, rfl⟩ ?_
  intro we kQe oe
  refine hK.out _ _ (⟨hHeld.1.only oe nNQ, hHeld.2.only oe nMQ⟩) (fun hHeld => ?_)
  clear hK K
  have kRe := kRd.only oe nRQ
  have ge : Grew w we := oe.grew gd LQ.out
  clear kRd kQd gd oe
  try simp only [List.getElem_toArray, List.getElem_cons_succ, List.getElem_cons_zero, Act.put, List.setIfInBounds_toArray, List.set_cons_zero, List.set_cons_succ]
  refine wpAnyH_take (i := 4) (v := ?_) rfl (by kernel_rfl) (by kernel_rfl) (by kernel_rfl) (fun _ _ _ h => h) (Or.inl ⟨by rfl, ?_⟩) hHeld ?_
  rotate_left
  · intro wq hSw
    replace hSw : Blk wq N (ncA c (.slice a1 nn j)) 25 ∧ Blk wq M #[.slice a n k] 27 := hSw
    go_simp
    try with_reducible rfl
  try simp only [List.getElem_toArray, List.getElem_cons_succ, List.getElem_cons_zero, Act.put, List.setIfInBounds_toArray, List.set_cons_zero, List.set_cons_succ]
  refine wpAnyH_done (by kernel_rfl) ?_ _
  try simp only [List.getElem_toArray, List.getElem_cons_succ, List.getElem_cons_zero, Act.put, List.setIfInBounds_toArray, List.set_cons_zero, List.set_cons_succ]
  go_wp2_with fail
  exact bodyPost_ret (v := .tuple #[ncV c (.slice a1 nn j), .agg #[.slice a n k], .bool false]) (results_3 (p := 6) (q := 7) (r := 8) Try.results28 _ _ R Q kRe kQe rfl rfl) rfl ⟨_, _, _, _, _, rfl, Lib.hid (HN.out.grew ge), Lib.hid (HM.out.grew ge), ge⟩
set_option maxHeartbeats 8000000 in
theorem rRecv_drop {c : Nat → Int} {m : List Int} {a1 : Option Addr} {j : Nat} {a : Option Addr} {n k : Nat} {xs : List Int} {fa : Option Addr} {fk : Nat} {fs : List Int} {w : World} (hN : Buf w (.slice a1 m.length j) m) (hM : Buf w (.slice a n k) xs) (hF : Buf w (.slice fa fs.length fk) fs) (hl : xs.length ≤ 140737488355328) (h6 : m.length = 6) (hc : ROk c) (hd : (fs.length : Int) < 14 ∨ (¬ (fs.length : Int) < 14 ∧ 1514 < (fs.length : Int)) ∨ ((¬ (fs.length : Int) < 14 ∧ ¬ 1514 < (fs.length : Int)) ∧ ((c 0 / 2 % 2 == 0) = true ∨ (c 0 / 2 % 2 == 0) = false ∧ (wantedB c m fs = false ∨ wantedB c m fs = true ∧ (c 9 == c 10) = true)))) : Calls Try.prog 28 #[ncV c (.slice a1 6 j), .agg #[.slice a n k], .slice fa fs.length fk] w fun e w' => ∃ a1 k1 a2 n2 k2, e = .returned (.tuple #[ncV (dropC c) (.slice a1 6 k1), .agg #[.slice a2 n2 k2], .bool false]) ∧ Hid (Buf w' (.slice a1 6 k1) m) ∧ Hid (Buf w' (.slice a2 n2 k2) xs) ∧ Grew w w' := by
  have hC := rCheck_c c a1 6 j
  rw [ok_chk hc] at hC
  have HC := Lib.hid hC
  rw [h6] at hN
  have hDr := Lib.hid (fun (w : World) => rdrop_c (c := c) hc.r11.1 hc.r11.2 hc.r1.1 hc.r1.2 a1 6 j w)
  have hWa := fun (w : World) (h : Buf w (.slice a1 6 j) m) (hf : Buf w (.slice fa fs.length fk) fs) (hl : 6 ≤ fs.length) => wanted_c hc.r0.1 hc.r0.2 h hf hl
  have q2 : (c 0).tdiv 2 = c 0 / 2 := Int.tdiv_eq_ediv_of_nonneg hc.r0.1
  have e2 : (c 0 / 2).tmod 2 = c 0 / 2 % 2 := Int.tmod_eq_emod_of_nonneg (by have := hc.r0.1; omega)
  have qw : wrap64 (c 0 / 2) = c 0 / 2 := IntWalk.wrap64_in _ (by have := hc.r0; omega)
  have HN := Lib.hid hN
  have HM := Lib.hid hM
  have HF := Lib.hid hF
  clear hC hN hM hF hl hc h6
  rcases hd with h1 | ⟨h1, h2⟩ | ⟨⟨h1, h2⟩, hd⟩
  · clear hWa q2 e2 qw
    go_enter Try.func28, Try.ntmps28
    go_upto_region 1 with fail
    have kN : Blk ((((w.alloc (.cells (ncA c (.slice a1 6 j)) 25)).alloc (.cells #[.slice a n k] 27)).alloc (.cells zeroN 25)).alloc (.cells #[.slice none 0 0] 27)) w.heap.size (ncA c (.slice a1 6 j)) 25 := (((Blk.new w (ncA c (.slice a1 6 j)) 25 _ rfl).alloc (.cells #[.slice a n k] 27)).alloc (.cells zeroN 25)).alloc (.cells #[.slice none 0 0] 27)
    have kM : Blk ((((w.alloc (.cells (ncA c (.slice a1 6 j)) 25)).alloc (.cells #[.slice a n k] 27)).alloc (.cells zeroN 25)).alloc (.cells #[.slice none 0 0] 27)) (w.heap.size + 1) #[.slice a n k] 27 := ((Blk.new (w.alloc (.cells (ncA c (.slice a1 6 j)) 25)) #[.slice a n k] 27 _ (by simp)).alloc (.cells zeroN 25)).alloc (.cells #[.slice none 0 0] 27)
    have kR : Blk ((((w.alloc (.cells (ncA c (.slice a1 6 j)) 25)).alloc (.cells #[.slice a n k] 27)).alloc (.cells zeroN 25)).alloc (.cells #[.slice none 0 0] 27)) (w.heap.size + 2) zeroN 25 := (Blk.new ((w.alloc (.cells (ncA c (.slice a1 6 j)) 25)).alloc (.cells #[.slice a n k] 27)) zeroN 25 _ (by simp)).alloc (.cells #[.slice none 0 0] 27)
    have kQ : Blk ((((w.alloc (.cells (ncA c (.slice a1 6 j)) 25)).alloc (.cells #[.slice a n k] 27)).alloc (.cells zeroN 25)).alloc (.cells #[.slice none 0 0] 27)) (w.heap.size + 3) #[.slice none 0 0] 27 := Blk.new (((w.alloc (.cells (ncA c (.slice a1 6 j)) 25)).alloc (.cells #[.slice a n k] 27)).alloc (.cells zeroN 25)) #[.slice none 0 0] 27 _ (by simp)
    have g0 : Grew w ((((w.alloc (.cells (ncA c (.slice a1 6 j)) 25)).alloc (.cells #[.slice a n k] 27)).alloc (.cells zeroN 25)).alloc (.cells #[.slice none 0 0] 27)) := ((((Grew.refl w).alloc (.cells (ncA c (.slice a1 6 j)) 25)).alloc (.cells #[.slice a n k] 27)).alloc (.cells zeroN 25)).alloc (.cells #[.slice none 0 0] 27)
    generalize ((((w.alloc (.cells (ncA c (.slice a1 6 j)) 25)).alloc (.cells #[.slice a n k] 27)).alloc (.cells zeroN 25)).alloc (.cells #[.slice none 0 0] 27)) = w0 at *
    have lN : w.heap.size ≤ w.heap.size := by omega
    have lM : w.heap.size ≤ (w.heap.size + 1) := by omega
    have lR : w.heap.size ≤ (w.heap.size + 2) := by omega
    have lQ : w.heap.size ≤ (w.heap.size + 3) := by omega
    have nNM : w.heap.size ≠ (w.heap.size + 1) := by omega
    have nNR : w.heap.size ≠ (w.heap.size + 2) := by omega
    have nNQ : w.heap.size ≠ (w.heap.size + 3) := by omega
    have nMN : (w.heap.size + 1) ≠ w.heap.size := by omega
    have nMR : (w.heap.size + 1) ≠ (w.heap.size + 2) := by omega
    have nMQ : (w.heap.size + 1) ≠ (w.heap.size + 3) := by omega
    have nRN : (w.heap.size + 2) ≠ w.heap.size := by omega
    have nRM : (w.heap.size + 2) ≠ (w.heap.size + 1) := by omega
    have nRQ : (w.heap.size + 2) ≠ (w.heap.size + 3) := by omega
    have nQN : (w.heap.size + 3) ≠ w.heap.size := by omega
    have nQM : (w.heap.size + 3) ≠ (w.heap.size + 1) := by omega
    have nQR : (w.heap.size + 3) ≠ (w.heap.size + 2) := by omega
    generalize (w.heap.size + 3) = Q at *
    generalize (w.heap.size + 2) = R at *
    generalize (w.heap.size + 1) = M at *
    generalize hZ : w.heap.size = N at *
    have HZ := Lib.hid hZ
    clear hZ
    have LN : Hid (w.heap.size ≤ N) := Lib.hid (by rw [HZ.out]; exact lN)
    have LM : Hid (w.heap.size ≤ M) := Lib.hid (by rw [HZ.out]; exact lM)
    have LR : Hid (w.heap.size ≤ R) := Lib.hid (by rw [HZ.out]; exact lR)
    have LQ : Hid (w.heap.size ≤ Q) := Lib.hid (by rw [HZ.out]; exact lQ)
    go_wp2_with (refine ld_nc rfl (.tmp 3) rfl _ rfl kN (by rfl) ?_)
    refine (HC.out _).mono ?_
    rintro e w1 ⟨rfl, g1⟩
    have kN1 := kN.grew g1
    have kM1 := kM.grew g1
    have kR1 := kR.grew g1
    have kQ1 := kQ.grew g1
    replace g1 := g0.trans g1
    clear kN kM kR kQ g0
    go_upto_region 4 with fail
    have kRc := kR1.drew
    have kQc := kQ1.drew
    have gc := g1.drew1
    clear kR1 kQ1 g1
    refine wp_region_held_drew (S := fun w' => Blk w' N (ncA c (.slice a1 6 j)) 25 ∧ Blk w' M #[.slice a n k] 27) (by kernel_rfl) (⟨kN1.drew, kM1.drew⟩) (fun hHeld => ?_)
    replace hHeld : Blk w1.drew N (ncA c (.slice a1 6 j)) 25 ∧ Blk w1.drew M #[.slice a n k] 27 := hHeld
    generalize w1.drew = wq0 at *
    refine wpAnyH_take (i := 0) (v := (ncV c (.slice a1 6 j))) rfl (by kernel_rfl) (by kernel_rfl) (by kernel_rfl) (fun _ _ _ h => h) (yl_nc rfl (by rfl) (by rfl) fun _ h => h.1) hHeld ?_
    try simp only [List.getElem_toArray, List.getElem_cons_succ, List.getElem_cons_zero, Act.put, List.setIfInBounds_toArray, List.set_cons_zero, List.set_cons_succ]
    refine wpAnyH_take (i := 2) (v := (.agg #[.slice a n k])) rfl (by kernel_rfl) (by kernel_rfl) (by kernel_rfl) (fun _ _ _ h => h) (yl_rm rfl (by rfl) (by rfl) fun _ h => h.2) hHeld ?_
    try simp only [List.getElem_toArray, List.getElem_cons_succ, List.getElem_cons_zero, Act.put, List.setIfInBounds_toArray, List.set_cons_zero, List.set_cons_succ]
    refine wpAnyH_ready (rs := [1]) (by kernel_rfl) (by simp) ?_
    refine AllReadyH.cons rfl (fun K hK => ?_) AllReadyH.nil
    go_simp
    refine Calls.mono (hDr.out _) ?_
    rintro e wa1 ⟨rfl, ga⟩
    refine hK.out _ _ (⟨hHeld.1.grew ga, hHeld.2.grew ga⟩) (fun hHeld => ?_)
    clear hK K
    replace kRc := kRc.grew ga
    replace kQc := kQc.grew ga
    replace gc := gc.trans ga
    clear ga
    try simp only [List.getElem_toArray, List.getElem_cons_succ, List.getElem_cons_zero, Act.put, List.setIfInBounds_toArray, List.set_cons_zero, List.set_cons_succ]
    refine wpAnyH_ready (rs := [3]) (by kernel_rfl) (by simp) ?_
    refine AllReadyH.cons rfl (fun K hK => ?_) AllReadyH.nil
    refine step_st_nc rfl (.tmp 6) (.tmp 50) rfl rfl (dropC c) kRc rfl (by rfl) (by rfl) ⟨_, _, _, rfl⟩ ?_
    intro wd kRd od
    refine hK.out _ _ (⟨hHeld.1.only od nNR, hHeld.2.only od nMR⟩) (fun hHeld => ?_)
    clear hK K
    have kQd := kQc.only od nQR
    have gd : Grew w wd := od.grew gc LR.out
    clear kRc kQc gc od
    try simp only [List.getElem_toArray, List.getElem_cons_succ, List.getElem_cons_zero, Act.put, List.setIfInBounds_toArray, List.set_cons_zero, List.set_cons_succ]
    refine wpAnyH_ready (rs := [4]) (by kernel_rfl) (by simp) ?_
    refine AllReadyH.cons rfl (fun K hK => ?_) AllReadyH.nil
    refine step_st_rm rfl (.tmp 7) (.tmp 51) rfl rfl kQd rfl (by rfl) (by rfl) ⟨_, _, _, rfl⟩ ?_
    intro we kQe oe
    refine hK.out _ _ (⟨hHeld.1.only oe nNQ, hHeld.2.only oe nMQ⟩) (fun hHeld => ?_)
    clear hK K
    have kRe := kRd.only oe nRQ
    have ge : Grew w we := oe.grew gd LQ.out
    clear kRd kQd gd oe
    try simp only [List.getElem_toArray, List.getElem_cons_succ, List.getElem_cons_zero, Act.put, List.setIfInBounds_toArray, List.set_cons_zero, List.set_cons_succ]
    refine wpAnyH_take (i := 5) (v := ?_) rfl (by kernel_rfl) (by kernel_rfl) (by kernel_rfl) (fun _ _ _ h => h) (Or.inl ⟨by rfl, ?_⟩) hHeld ?_
    rotate_left
    · intro wq hSw
      replace hSw : Blk wq N (ncA c (.slice a1 6 j)) 25 ∧ Blk wq M #[.slice a n k] 27 := hSw
      go_simp
      try with_reducible rfl
    try simp only [List.getElem_toArray, List.getElem_cons_succ, List.getElem_cons_zero, Act.put, List.setIfInBounds_toArray, List.set_cons_zero, List.set_cons_succ]
    refine wpAnyH_done (by kernel_rfl) ?_ _
    try simp only [List.getElem_toArray, List.getElem_cons_succ, List.getElem_cons_zero, Act.put, List.setIfInBounds_toArray, List.set_cons_zero, List.set_cons_succ]
    go_wp2_with fail
    exact bodyPost_ret (v := .tuple #[ncV (dropC c) (.slice a1 6 j), .agg #[.slice a n k], .bool false]) (results_3 (p := 6) (q := 7) (r := 8) Try.results28 _ _ R Q kRe kQe rfl rfl) rfl ⟨_, _, _, _, _, rfl, Lib.hid (HN.out.grew ge), Lib.hid (HM.out.grew ge), ge⟩
  · clear hWa q2 e2 qw
    go_enter Try.func28, Try.ntmps28
    go_upto_region 1 with fail
    have kN : Blk ((((w.alloc (.cells (ncA c (.slice a1 6 j)) 25)).alloc (.cells #[.slice a n k] 27)).alloc (.cells zeroN 25)).alloc (.cells #[.slice none 0 0] 27)) w.heap.size (ncA c (.slice a1 6 j)) 25 := (((Blk.new w (ncA c (.slice a1 6 j)) 25 _ rfl).alloc (.cells #[.slice a n k] 27)).alloc (.cells zeroN 25)).alloc (.cells #[.slice none 0 0] 27)
    have kM : Blk ((((w.alloc (.cells (ncA c (.slice a1 6 j)) 25)).alloc (.cells #[.slice a n k] 27)).alloc (.cells zeroN 25)).alloc (.cells #[.slice none 0 0] 27)) (w.heap.size + 1) #[.slice a n k] 27 := ((Blk.new (w.alloc (.cells (ncA c (.slice a1 6 j)) 25)) #[.slice a n k] 27 _ (by simp)).alloc (.cells zeroN 25)).alloc (.cells #[.slice none 0 0] 27)
    have kR : Blk ((((w.alloc (.cells (ncA c (.slice a1 6 j)) 25)).alloc (.cells #[.slice a n k] 27)).alloc (.cells zeroN 25)).alloc (.cells #[.slice none 0 0] 27)) (w.heap.size + 2) zeroN 25 := (Blk.new ((w.alloc (.cells (ncA c (.slice a1 6 j)) 25)).alloc (.cells #[.slice a n k] 27)) zeroN 25 _ (by simp)).alloc (.cells #[.slice none 0 0] 27)
    have kQ : Blk ((((w.alloc (.cells (ncA c (.slice a1 6 j)) 25)).alloc (.cells #[.slice a n k] 27)).alloc (.cells zeroN 25)).alloc (.cells #[.slice none 0 0] 27)) (w.heap.size + 3) #[.slice none 0 0] 27 := Blk.new (((w.alloc (.cells (ncA c (.slice a1 6 j)) 25)).alloc (.cells #[.slice a n k] 27)).alloc (.cells zeroN 25)) #[.slice none 0 0] 27 _ (by simp)
    have g0 : Grew w ((((w.alloc (.cells (ncA c (.slice a1 6 j)) 25)).alloc (.cells #[.slice a n k] 27)).alloc (.cells zeroN 25)).alloc (.cells #[.slice none 0 0] 27)) := ((((Grew.refl w).alloc (.cells (ncA c (.slice a1 6 j)) 25)).alloc (.cells #[.slice a n k] 27)).alloc (.cells zeroN 25)).alloc (.cells #[.slice none 0 0] 27)
    generalize ((((w.alloc (.cells (ncA c (.slice a1 6 j)) 25)).alloc (.cells #[.slice a n k] 27)).alloc (.cells zeroN 25)).alloc (.cells #[.slice none 0 0] 27)) = w0 at *
    have lN : w.heap.size ≤ w.heap.size := by omega
    have lM : w.heap.size ≤ (w.heap.size + 1) := by omega
    have lR : w.heap.size ≤ (w.heap.size + 2) := by omega
    have lQ : w.heap.size ≤ (w.heap.size + 3) := by omega
    have nNM : w.heap.size ≠ (w.heap.size + 1) := by omega
    have nNR : w.heap.size ≠ (w.heap.size + 2) := by omega
    have nNQ : w.heap.size ≠ (w.heap.size + 3) := by omega
    have nMN : (w.heap.size + 1) ≠ w.heap.size := by omega
    have nMR : (w.heap.size + 1) ≠ (w.heap.size + 2) := by omega
    have nMQ : (w.heap.size + 1) ≠ (w.heap.size + 3) := by omega
    have nRN : (w.heap.size + 2) ≠ w.heap.size := by omega
    have nRM : (w.heap.size + 2) ≠ (w.heap.size + 1) := by omega
    have nRQ : (w.heap.size + 2) ≠ (w.heap.size + 3) := by omega
    have nQN : (w.heap.size + 3) ≠ w.heap.size := by omega
    have nQM : (w.heap.size + 3) ≠ (w.heap.size + 1) := by omega
    have nQR : (w.heap.size + 3) ≠ (w.heap.size + 2) := by omega
    generalize (w.heap.size + 3) = Q at *
    generalize (w.heap.size + 2) = R at *
    generalize (w.heap.size + 1) = M at *
    generalize hZ : w.heap.size = N at *
    have HZ := Lib.hid hZ
    clear hZ
    have LN : Hid (w.heap.size ≤ N) := Lib.hid (by rw [HZ.out]; exact lN)
    have LM : Hid (w.heap.size ≤ M) := Lib.hid (by rw [HZ.out]; exact lM)
    have LR : Hid (w.heap.size ≤ R) := Lib.hid (by rw [HZ.out]; exact lR)
    have LQ : Hid (w.heap.size ≤ Q) := Lib.hid (by rw [HZ.out]; exact lQ)
    go_wp2_with (refine ld_nc rfl (.tmp 3) rfl _ rfl kN (by rfl) ?_)
    refine (HC.out _).mono ?_
    rintro e w1 ⟨rfl, g1⟩
    have kN1 := kN.grew g1
    have kM1 := kM.grew g1
    have kR1 := kR.grew g1
    have kQ1 := kQ.grew g1
    replace g1 := g0.trans g1
    clear kN kM kR kQ g0
    go_upto_region 4 with fail
    have kRc := kR1.drew
    have kQc := kQ1.drew
    have gc := g1.drew1
    clear kR1 kQ1 g1
    refine wp_region_held_drew (S := fun w' => Blk w' N (ncA c (.slice a1 6 j)) 25 ∧ Blk w' M #[.slice a n k] 27) (by kernel_rfl) (⟨kN1.drew, kM1.drew⟩) (fun hHeld => ?_)
    replace hHeld : Blk w1.drew N (ncA c (.slice a1 6 j)) 25 ∧ Blk w1.drew M #[.slice a n k] 27 := hHeld
    generalize w1.drew = wq0 at *
    refine wpAnyH_take (i := 0) (v := (ncV c (.slice a1 6 j))) rfl (by kernel_rfl) (by kernel_rfl) (by kernel_rfl) (fun _ _ _ h => h) (yl_nc rfl (by rfl) (by rfl) fun _ h => h.1) hHeld ?_
    try simp only [List.getElem_toArray, List.getElem_cons_succ, List.getElem_cons_zero, Act.put, List.setIfInBounds_toArray, List.set_cons_zero, List.set_cons_succ]
    refine wpAnyH_take (i := 2) (v := (.agg #[.slice a n k])) rfl (by kernel_rfl) (by kernel_rfl) (by kernel_rfl) (fun _ _ _ h => h) (yl_rm rfl (by rfl) (by rfl) fun _ h => h.2) hHeld ?_
    try simp only [List.getElem_toArray, List.getElem_cons_succ, List.getElem_cons_zero, Act.put, List.setIfInBounds_toArray, List.set_cons_zero, List.set_cons_succ]
    refine wpAnyH_ready (rs := [1]) (by kernel_rfl) (by simp) ?_
    refine AllReadyH.cons rfl (fun K hK => ?_) AllReadyH.nil
    go_simp
    refine Calls.mono (hDr.out _) ?_
    rintro e wa1 ⟨rfl, ga⟩
    refine hK.out _ _ (⟨hHeld.1.grew ga, hHeld.2.grew ga⟩) (fun hHeld => ?_)
    clear hK K
    replace kRc := kRc.grew ga
    replace kQc := kQc.grew ga
    replace gc := gc.trans ga
    clear ga
    try simp only [List.getElem_toArray, List.getElem_cons_succ, List.getElem_cons_zero, Act.put, List.setIfInBounds_toArray, List.set_cons_zero, List.set_cons_succ]
    refine wpAnyH_ready (rs := [3]) (by kernel_rfl) (by simp) ?_
    refine AllReadyH.cons rfl (fun K hK => ?_) AllReadyH.nil
    refine step_st_nc rfl (.tmp 6) (.tmp 50) rfl rfl (dropC c) kRc rfl (by rfl) (by rfl) ⟨_, _, _, rfl⟩ ?_
    intro wd kRd od
    refine hK.out _ _ (⟨hHeld.1.only od nNR, hHeld.2.only od nMR⟩) (fun hHeld => ?_)
    clear hK K
    have kQd := kQc.only od nQR
    have gd : Grew w wd := od.grew gc LR.out
    clear kRc kQc gc od
    try simp only [List.getElem_toArray, List.getElem_cons_succ, List.getElem_cons_zero, Act.put, List.setIfInBounds_toArray, List.set_cons_zero, List.set_cons_succ]
    refine wpAnyH_ready (rs := [4]) (by kernel_rfl) (by simp) ?_
    refine AllReadyH.cons rfl (fun K hK => ?_) AllReadyH.nil
    refine step_st_rm rfl (.tmp 7) (.tmp 51) rfl rfl kQd rfl (by rfl) (by rfl) ⟨_, _, _, rfl⟩ ?_
    intro we kQe oe
    refine hK.out _ _ (⟨hHeld.1.only oe nNQ, hHeld.2.only oe nMQ⟩) (fun hHeld => ?_)
    clear hK K
    have kRe := kRd.only oe nRQ
    have ge : Grew w we := oe.grew gd LQ.out
    clear kRd kQd gd oe
    try simp only [List.getElem_toArray, List.getElem_cons_succ, List.getElem_cons_zero, Act.put, List.setIfInBounds_toArray, List.set_cons_zero, List.set_cons_succ]
    refine wpAnyH_take (i := 5) (v := ?_) rfl (by kernel_rfl) (by kernel_rfl) (by kernel_rfl) (fun _ _ _ h => h) (Or.inl ⟨by rfl, ?_⟩) hHeld ?_
    rotate_left
    · intro wq hSw
      replace hSw : Blk wq N (ncA c (.slice a1 6 j)) 25 ∧ Blk wq M #[.slice a n k] 27 := hSw
      go_simp
      try with_reducible rfl
    try simp only [List.getElem_toArray, List.getElem_cons_succ, List.getElem_cons_zero, Act.put, List.setIfInBounds_toArray, List.set_cons_zero, List.set_cons_succ]
    refine wpAnyH_done (by kernel_rfl) ?_ _
    try simp only [List.getElem_toArray, List.getElem_cons_succ, List.getElem_cons_zero, Act.put, List.setIfInBounds_toArray, List.set_cons_zero, List.set_cons_succ]
    go_wp2_with fail
    exact bodyPost_ret (v := .tuple #[ncV (dropC c) (.slice a1 6 j), .agg #[.slice a n k], .bool false]) (results_3 (p := 6) (q := 7) (r := 8) Try.results28 _ _ R Q kRe kQe rfl rfl) rfl ⟨_, _, _, _, _, rfl, Lib.hid (HN.out.grew ge), Lib.hid (HM.out.grew ge), ge⟩
  rcases hd with u0 | ⟨u0, hd⟩
  · clear hWa
    go_enter Try.func28, Try.ntmps28
    go_upto_region 1 with fail
    have kN : Blk ((((w.alloc (.cells (ncA c (.slice a1 6 j)) 25)).alloc (.cells #[.slice a n k] 27)).alloc (.cells zeroN 25)).alloc (.cells #[.slice none 0 0] 27)) w.heap.size (ncA c (.slice a1 6 j)) 25 := (((Blk.new w (ncA c (.slice a1 6 j)) 25 _ rfl).alloc (.cells #[.slice a n k] 27)).alloc (.cells zeroN 25)).alloc (.cells #[.slice none 0 0] 27)
    have kM : Blk ((((w.alloc (.cells (ncA c (.slice a1 6 j)) 25)).alloc (.cells #[.slice a n k] 27)).alloc (.cells zeroN 25)).alloc (.cells #[.slice none 0 0] 27)) (w.heap.size + 1) #[.slice a n k] 27 := ((Blk.new (w.alloc (.cells (ncA c (.slice a1 6 j)) 25)) #[.slice a n k] 27 _ (by simp)).alloc (.cells zeroN 25)).alloc (.cells #[.slice none 0 0] 27)
    have kR : Blk ((((w.alloc (.cells (ncA c (.slice a1 6 j)) 25)).alloc (.cells #[.slice a n k] 27)).alloc (.cells zeroN 25)).alloc (.cells #[.slice none 0 0] 27)) (w.heap.size + 2) zeroN 25 := (Blk.new ((w.alloc (.cells (ncA c (.slice a1 6 j)) 25)).alloc (.cells #[.slice a n k] 27)) zeroN 25 _ (by simp)).alloc (.cells #[.slice none 0 0] 27)
    have kQ : Blk ((((w.alloc (.cells (ncA c (.slice a1 6 j)) 25)).alloc (.cells #[.slice a n k] 27)).alloc (.cells zeroN 25)).alloc (.cells #[.slice none 0 0] 27)) (w.heap.size + 3) #[.slice none 0 0] 27 := Blk.new (((w.alloc (.cells (ncA c (.slice a1 6 j)) 25)).alloc (.cells #[.slice a n k] 27)).alloc (.cells zeroN 25)) #[.slice none 0 0] 27 _ (by simp)
    have g0 : Grew w ((((w.alloc (.cells (ncA c (.slice a1 6 j)) 25)).alloc (.cells #[.slice a n k] 27)).alloc (.cells zeroN 25)).alloc (.cells #[.slice none 0 0] 27)) := ((((Grew.refl w).alloc (.cells (ncA c (.slice a1 6 j)) 25)).alloc (.cells #[.slice a n k] 27)).alloc (.cells zeroN 25)).alloc (.cells #[.slice none 0 0] 27)
    generalize ((((w.alloc (.cells (ncA c (.slice a1 6 j)) 25)).alloc (.cells #[.slice a n k] 27)).alloc (.cells zeroN 25)).alloc (.cells #[.slice none 0 0] 27)) = w0 at *
    have lN : w.heap.size ≤ w.heap.size := by omega
    have lM : w.heap.size ≤ (w.heap.size + 1) := by omega
    have lR : w.heap.size ≤ (w.heap.size + 2) := by omega
    have lQ : w.heap.size ≤ (w.heap.size + 3) := by omega
    have nNM : w.heap.size ≠ (w.heap.size + 1) := by omega
    have nNR : w.heap.size ≠ (w.heap.size + 2) := by omega
    have nNQ : w.heap.size ≠ (w.heap.size + 3) := by omega
    have nMN : (w.heap.size + 1) ≠ w.heap.size := by omega
    have nMR : (w.heap.size + 1) ≠ (w.heap.size + 2) := by omega
    have nMQ : (w.heap.size + 1) ≠ (w.heap.size + 3) := by omega
    have nRN : (w.heap.size + 2) ≠ w.heap.size := by omega
    have nRM : (w.heap.size + 2) ≠ (w.heap.size + 1) := by omega
    have nRQ : (w.heap.size + 2) ≠ (w.heap.size + 3) := by omega
    have nQN : (w.heap.size + 3) ≠ w.heap.size := by omega
    have nQM : (w.heap.size + 3) ≠ (w.heap.size + 1) := by omega
    have nQR : (w.heap.size + 3) ≠ (w.heap.size + 2) := by omega
    generalize (w.heap.size + 3) = Q at *
    generalize (w.heap.size + 2) = R at *
    generalize (w.heap.size + 1) = M at *
    generalize hZ : w.heap.size = N at *
    have HZ := Lib.hid hZ
    clear hZ
    have LN : Hid (w.heap.size ≤ N) := Lib.hid (by rw [HZ.out]; exact lN)
    have LM : Hid (w.heap.size ≤ M) := Lib.hid (by rw [HZ.out]; exact lM)
    have LR : Hid (w.heap.size ≤ R) := Lib.hid (by rw [HZ.out]; exact lR)
    have LQ : Hid (w.heap.size ≤ Q) := Lib.hid (by rw [HZ.out]; exact lQ)
    go_wp2_with (refine ld_nc rfl (.tmp 3) rfl _ rfl kN (by rfl) ?_)
    refine (HC.out _).mono ?_
    rintro e w1 ⟨rfl, g1⟩
    have kN1 := kN.grew g1
    have kM1 := kM.grew g1
    have kR1 := kR.grew g1
    have kQ1 := kQ.grew g1
    replace g1 := g0.trans g1
    clear kN kM kR kQ g0
    have y0 : w1.cell? ⟨N, 0, none⟩ = some (.int .i64 (c 0)) := kN1.cell 0
    go_upto_region 4 with fail
    clear y0 q2 e2 qw u0
    have kRc := kR1.drew
    have kQc := kQ1.drew
    have gc := g1.drew1
    clear kR1 kQ1 g1
    refine wp_region_held_drew (S := fun w' => Blk w' N (ncA c (.slice a1 6 j)) 25 ∧ Blk w' M #[.slice a n k] 27) (by kernel_rfl) (⟨kN1.drew, kM1.drew⟩) (fun hHeld => ?_)
    replace hHeld : Blk w1.drew N (ncA c (.slice a1 6 j)) 25 ∧ Blk w1.drew M #[.slice a n k] 27 := hHeld
    generalize w1.drew = wq0 at *
    refine wpAnyH_take (i := 0) (v := (ncV c (.slice a1 6 j))) rfl (by kernel_rfl) (by kernel_rfl) (by kernel_rfl) (fun _ _ _ h => h) (yl_nc rfl (by rfl) (by rfl) fun _ h => h.1) hHeld ?_
    try simp only [List.getElem_toArray, List.getElem_cons_succ, List.getElem_cons_zero, Act.put, List.setIfInBounds_toArray, List.set_cons_zero, List.set_cons_succ]
    refine wpAnyH_take (i := 2) (v := (.agg #[.slice a n k])) rfl (by kernel_rfl) (by kernel_rfl) (by kernel_rfl) (fun _ _ _ h => h) (yl_rm rfl (by rfl) (by rfl) fun _ h => h.2) hHeld ?_
    try simp only [List.getElem_toArray, List.getElem_cons_succ, List.getElem_cons_zero, Act.put, List.setIfInBounds_toArray, List.set_cons_zero, List.set_cons_succ]
    refine wpAnyH_ready (rs := [1]) (by kernel_rfl) (by simp) ?_
    refine AllReadyH.cons rfl (fun K hK => ?_) AllReadyH.nil
    go_simp
    refine Calls.mono (hDr.out _) ?_
    rintro e wa1 ⟨rfl, ga⟩
    refine hK.out _ _ (⟨hHeld.1.grew ga, hHeld.2.grew ga⟩) (fun hHeld => ?_)
    clear hK K
    replace kRc := kRc.grew ga
    replace kQc := kQc.grew ga
    replace gc := gc.trans ga
    clear ga
    try simp only [List.getElem_toArray, List.getElem_cons_succ, List.getElem_cons_zero, Act.put, List.setIfInBounds_toArray, List.set_cons_zero, List.set_cons_succ]
    refine wpAnyH_ready (rs := [3]) (by kernel_rfl) (by simp) ?_
    refine AllReadyH.cons rfl (fun K hK => ?_) AllReadyH.nil
    refine step_st_nc rfl (.tmp 6) (.tmp 50) rfl rfl (dropC c) kRc rfl (by rfl) (by rfl) ⟨_, _, _, rfl⟩ ?_
    intro wd kRd od
    refine hK.out _ _ (⟨hHeld.1.only od nNR, hHeld.2.only od nMR⟩) (fun hHeld => ?_)
    clear hK K
    have kQd := kQc.only od nQR
    have gd : Grew w wd := od.grew gc LR.out
    clear kRc kQc gc od
    try simp only [List.getElem_toArray, List.getElem_cons_succ, List.getElem_cons_zero, Act.put, List.setIfInBounds_toArray, List.set_cons_zero, List.set_cons_succ]
    refine wpAnyH_ready (rs := [4]) (by kernel_rfl) (by simp) ?_
    refine AllReadyH.cons rfl (fun K hK => ?_) AllReadyH.nil
    refine step_st_rm rfl (.tmp 7) (.tmp 51) rfl rfl kQd rfl (by rfl) (by rfl) ⟨_, _, _, rfl⟩ ?_
    intro we kQe oe
    refine hK.out _ _ (⟨hHeld.1.only oe nNQ, hHeld.2.only oe nMQ⟩) (fun hHeld => ?_)
    clear hK K
    have kRe := kRd.only oe nRQ
    have ge : Grew w we := oe.grew gd LQ.out
    clear kRd kQd gd oe
    try simp only [List.getElem_toArray, List.getElem_cons_succ, List.getElem_cons_zero, Act.put, List.setIfInBounds_toArray, List.set_cons_zero, List.set_cons_succ]
    refine wpAnyH_take (i := 5) (v := ?_) rfl (by kernel_rfl) (by kernel_rfl) (by kernel_rfl) (fun _ _ _ h => h) (Or.inl ⟨by rfl, ?_⟩) hHeld ?_
    rotate_left
    · intro wq hSw
      replace hSw : Blk wq N (ncA c (.slice a1 6 j)) 25 ∧ Blk wq M #[.slice a n k] 27 := hSw
      go_simp
      try with_reducible rfl
    try simp only [List.getElem_toArray, List.getElem_cons_succ, List.getElem_cons_zero, Act.put, List.setIfInBounds_toArray, List.set_cons_zero, List.set_cons_succ]
    refine wpAnyH_done (by kernel_rfl) ?_ _
    try simp only [List.getElem_toArray, List.getElem_cons_succ, List.getElem_cons_zero, Act.put, List.setIfInBounds_toArray, List.set_cons_zero, List.set_cons_succ]
    go_wp2_with fail
    exact bodyPost_ret (v := .tuple #[ncV (dropC c) (.slice a1 6 j), .agg #[.slice a n k], .bool false]) (results_3 (p := 6) (q := 7) (r := 8) Try.results28 _ _ R Q kRe kQe rfl rfl) rfl ⟨_, _, _, _, _, rfl, Lib.hid (HN.out.grew ge), Lib.hid (HM.out.grew ge), ge⟩
  have h14 : 6 ≤ fs.length := by omega
  rcases hd with hb | ⟨hb, u9⟩
  · have HWa := Lib.hid (fun (w : World) (h : Buf w (.slice a1 6 j) m) (hf : Buf w (.slice fa fs.length fk) fs) => (show Calls _ _ _ _ fun e w' => e = .returned (.bool false) ∧ Grew w w' from hb ▸ hWa w h hf h14))
    have d1 : decide ((fs.length : Int) < 14) = false := decide_eq_false h1
    have d2 : decide (1514 < (fs.length : Int)) = false := decide_eq_false h2
    clear hWa hb h14 h1 h2
    go_enter Try.func28, Try.ntmps28
    go_upto_region 1 with fail
    have kN : Blk ((((w.alloc (.cells (ncA c (.slice a1 6 j)) 25)).alloc (.cells #[.slice a n k] 27)).alloc (.cells zeroN 25)).alloc (.cells #[.slice none 0 0] 27)) w.heap.size (ncA c (.slice a1 6 j)) 25 := (((Blk.new w (ncA c (.slice a1 6 j)) 25 _ rfl).alloc (.cells #[.slice a n k] 27)).alloc (.cells zeroN 25)).alloc (.cells #[.slice none 0 0] 27)
    have kM : Blk ((((w.alloc (.cells (ncA c (.slice a1 6 j)) 25)).alloc (.cells #[.slice a n k] 27)).alloc (.cells zeroN 25)).alloc (.cells #[.slice none 0 0] 27)) (w.heap.size + 1) #[.slice a n k] 27 := ((Blk.new (w.alloc (.cells (ncA c (.slice a1 6 j)) 25)) #[.slice a n k] 27 _ (by simp)).alloc (.cells zeroN 25)).alloc (.cells #[.slice none 0 0] 27)
    have kR : Blk ((((w.alloc (.cells (ncA c (.slice a1 6 j)) 25)).alloc (.cells #[.slice a n k] 27)).alloc (.cells zeroN 25)).alloc (.cells #[.slice none 0 0] 27)) (w.heap.size + 2) zeroN 25 := (Blk.new ((w.alloc (.cells (ncA c (.slice a1 6 j)) 25)).alloc (.cells #[.slice a n k] 27)) zeroN 25 _ (by simp)).alloc (.cells #[.slice none 0 0] 27)
    have kQ : Blk ((((w.alloc (.cells (ncA c (.slice a1 6 j)) 25)).alloc (.cells #[.slice a n k] 27)).alloc (.cells zeroN 25)).alloc (.cells #[.slice none 0 0] 27)) (w.heap.size + 3) #[.slice none 0 0] 27 := Blk.new (((w.alloc (.cells (ncA c (.slice a1 6 j)) 25)).alloc (.cells #[.slice a n k] 27)).alloc (.cells zeroN 25)) #[.slice none 0 0] 27 _ (by simp)
    have g0 : Grew w ((((w.alloc (.cells (ncA c (.slice a1 6 j)) 25)).alloc (.cells #[.slice a n k] 27)).alloc (.cells zeroN 25)).alloc (.cells #[.slice none 0 0] 27)) := ((((Grew.refl w).alloc (.cells (ncA c (.slice a1 6 j)) 25)).alloc (.cells #[.slice a n k] 27)).alloc (.cells zeroN 25)).alloc (.cells #[.slice none 0 0] 27)
    generalize ((((w.alloc (.cells (ncA c (.slice a1 6 j)) 25)).alloc (.cells #[.slice a n k] 27)).alloc (.cells zeroN 25)).alloc (.cells #[.slice none 0 0] 27)) = w0 at *
    have lN : w.heap.size ≤ w.heap.size := by omega
    have lM : w.heap.size ≤ (w.heap.size + 1) := by omega
    have lR : w.heap.size ≤ (w.heap.size + 2) := by omega
    have lQ : w.heap.size ≤ (w.heap.size + 3) := by omega
    have nNM : w.heap.size ≠ (w.heap.size + 1) := by omega
    have nNR : w.heap.size ≠ (w.heap.size + 2) := by omega
    have nNQ : w.heap.size ≠ (w.heap.size + 3) := by omega
    have nMN : (w.heap.size + 1) ≠ w.heap.size := by omega
    have nMR : (w.heap.size + 1) ≠ (w.heap.size + 2) := by omega
    have nMQ : (w.heap.size + 1) ≠ (w.heap.size + 3) := by omega
    have nRN : (w.heap.size + 2) ≠ w.heap.size := by omega
    have nRM : (w.heap.size + 2) ≠ (w.heap.size + 1) := by omega
    have nRQ : (w.heap.size + 2) ≠ (w.heap.size + 3) := by omega
    have nQN : (w.heap.size + 3) ≠ w.heap.size := by omega
    have nQM : (w.heap.size + 3) ≠ (w.heap.size + 1) := by omega
    have nQR : (w.heap.size + 3) ≠ (w.heap.size + 2) := by omega
    generalize (w.heap.size + 3) = Q at *
    generalize (w.heap.size + 2) = R at *
    generalize (w.heap.size + 1) = M at *
    generalize hZ : w.heap.size = N at *
    have HZ := Lib.hid hZ
    clear hZ
    have LN : Hid (w.heap.size ≤ N) := Lib.hid (by rw [HZ.out]; exact lN)
    have LM : Hid (w.heap.size ≤ M) := Lib.hid (by rw [HZ.out]; exact lM)
    have LR : Hid (w.heap.size ≤ R) := Lib.hid (by rw [HZ.out]; exact lR)
    have LQ : Hid (w.heap.size ≤ Q) := Lib.hid (by rw [HZ.out]; exact lQ)
    go_wp2_with (refine ld_nc rfl (.tmp 3) rfl _ rfl kN (by rfl) ?_)
    refine (HC.out _).mono ?_
    rintro e w1 ⟨rfl, g1⟩
    have kN1 := kN.grew g1
    have kM1 := kM.grew g1
    have kR1 := kR.grew g1
    have kQ1 := kQ.grew g1
    replace g1 := g0.trans g1
    clear kN kM kR kQ g0
    have y0 : w1.cell? ⟨N, 0, none⟩ = some (.int .i64 (c 0)) := kN1.cell 0
    go_wp2_with (refine lw_nc (by rfl) (.tmp 3) rfl _ rfl kN1 (by rfl) ?_)
    refine (HWa.out _ (HN.out.grew g1) (HF.out.grew g1)).mono ?_
    rintro e w2 ⟨rfl, g2⟩
    replace kN1 := kN1.grew g2
    replace kM1 := kM1.grew g2
    replace kR1 := kR1.grew g2
    replace kQ1 := kQ1.grew g2
    replace g1 := g1.trans g2
    clear g2 y0
    go_upto_region 4 with fail
    clear q2 e2 qw u0 HWa
    have kRc := kR1.drew
    have kQc := kQ1.drew
    have gc := g1.drew1
    clear kR1 kQ1 g1
    refine wp_region_held_drew (S := fun w' => Blk w' N (ncA c (.slice a1 6 j)) 25 ∧ Blk w' M #[.slice a n k] 27) (by kernel_rfl) (⟨kN1.drew, kM1.drew⟩) (fun hHeld => ?_)
    replace hHeld : Blk w2.drew N (ncA c (.slice a1 6 j)) 25 ∧ Blk w2.drew M #[.slice a n k] 27 := hHeld
    generalize w2.drew = wq0 at *
    refine wpAnyH_take (i := 0) (v := (ncV c (.slice a1 6 j))) rfl (by kernel_rfl) (by kernel_rfl) (by kernel_rfl) (fun _ _ _ h => h) (yl_nc rfl (by rfl) (by rfl) fun _ h => h.1) hHeld ?_
    try simp only [List.getElem_toArray, List.getElem_cons_succ, List.getElem_cons_zero, Act.put, List.setIfInBounds_toArray, List.set_cons_zero, List.set_cons_succ]
    refine wpAnyH_take (i := 2) (v := (.agg #[.slice a n k])) rfl (by kernel_rfl) (by kernel_rfl) (by kernel_rfl) (fun _ _ _ h => h) (yl_rm rfl (by rfl) (by rfl) fun _ h => h.2) hHeld ?_
    try simp only [List.getElem_toArray, List.getElem_cons_succ, List.getElem_cons_zero, Act.put, List.setIfInBounds_toArray, List.set_cons_zero, List.set_cons_succ]
    refine wpAnyH_ready (rs := [1]) (by kernel_rfl) (by simp) ?_
    refine AllReadyH.cons rfl (fun K hK => ?_) AllReadyH.nil
    go_simp
    refine Calls.mono (hDr.out _) ?_
    rintro e wa1 ⟨rfl, ga⟩
    refine hK.out _ _ (⟨hHeld.1.grew ga, hHeld.2.grew ga⟩) (fun hHeld => ?_)
    clear hK K
    replace kRc := kRc.grew ga
    replace kQc := kQc.grew ga
    replace gc := gc.trans ga
    clear ga
    try simp only [List.getElem_toArray, List.getElem_cons_succ, List.getElem_cons_zero, Act.put, List.setIfInBounds_toArray, List.set_cons_zero, List.set_cons_succ]
    refine wpAnyH_ready (rs := [3]) (by kernel_rfl) (by simp) ?_
    refine AllReadyH.cons rfl (fun K hK => ?_) AllReadyH.nil
    refine step_st_nc rfl (.tmp 6) (.tmp 50) rfl rfl (dropC c) kRc rfl (by rfl) (by rfl) ⟨_, _, _, rfl⟩ ?_
    intro wd kRd od
    refine hK.out _ _ (⟨hHeld.1.only od nNR, hHeld.2.only od nMR⟩) (fun hHeld => ?_)
    clear hK K
    have kQd := kQc.only od nQR
    have gd : Grew w wd := od.grew gc LR.out
    clear kRc kQc gc od
    try simp only [List.getElem_toArray, List.getElem_cons_succ, List.getElem_cons_zero, Act.put, List.setIfInBounds_toArray, List.set_cons_zero, List.set_cons_succ]
    refine wpAnyH_ready (rs := [4]) (by kernel_rfl) (by simp) ?_
    refine AllReadyH.cons rfl (fun K hK => ?_) AllReadyH.nil
    refine step_st_rm rfl (.tmp 7) (.tmp 51) rfl rfl kQd rfl (by rfl) (by rfl) ⟨_, _, _, rfl⟩ ?_
    intro we kQe oe
    refine hK.out _ _ (⟨hHeld.1.only oe nNQ, hHeld.2.only oe nMQ⟩) (fun hHeld => ?_)
    clear hK K
    have kRe := kRd.only oe nRQ
    have ge : Grew w we := oe.grew gd LQ.out
    clear kRd kQd gd oe
    try simp only [List.getElem_toArray, List.getElem_cons_succ, List.getElem_cons_zero, Act.put, List.setIfInBounds_toArray, List.set_cons_zero, List.set_cons_succ]
    refine wpAnyH_take (i := 5) (v := ?_) rfl (by kernel_rfl) (by kernel_rfl) (by kernel_rfl) (fun _ _ _ h => h) (Or.inl ⟨by rfl, ?_⟩) hHeld ?_
    rotate_left
    · intro wq hSw
      replace hSw : Blk wq N (ncA c (.slice a1 6 j)) 25 ∧ Blk wq M #[.slice a n k] 27 := hSw
      go_simp
      try with_reducible rfl
    try simp only [List.getElem_toArray, List.getElem_cons_succ, List.getElem_cons_zero, Act.put, List.setIfInBounds_toArray, List.set_cons_zero, List.set_cons_succ]
    refine wpAnyH_done (by kernel_rfl) ?_ _
    try simp only [List.getElem_toArray, List.getElem_cons_succ, List.getElem_cons_zero, Act.put, List.setIfInBounds_toArray, List.set_cons_zero, List.set_cons_succ]
    go_wp2_with fail
    exact bodyPost_ret (v := .tuple #[ncV (dropC c) (.slice a1 6 j), .agg #[.slice a n k], .bool false]) (results_3 (p := 6) (q := 7) (r := 8) Try.results28 _ _ R Q kRe kQe rfl rfl) rfl ⟨_, _, _, _, _, rfl, Lib.hid (HN.out.grew ge), Lib.hid (HM.out.grew ge), ge⟩
  · have HWa := Lib.hid (fun (w : World) (h : Buf w (.slice a1 6 j) m) (hf : Buf w (.slice fa fs.length fk) fs) => (show Calls _ _ _ _ fun e w' => e = .returned (.bool true) ∧ Grew w w' from hb ▸ hWa w h hf h14))
    have d1 : decide ((fs.length : Int) < 14) = false := decide_eq_false h1
    have d2 : decide (1514 < (fs.length : Int)) = false := decide_eq_false h2
    clear hWa hb h14 h1 h2
    go_enter Try.func28, Try.ntmps28
    go_upto_region 1 with fail
    have kN : Blk ((((w.alloc (.cells (ncA c (.slice a1 6 j)) 25)).alloc (.cells #[.slice a n k] 27)).alloc (.cells zeroN 25)).alloc (.cells #[.slice none 0 0] 27)) w.heap.size (ncA c (.slice a1 6 j)) 25 := (((Blk.new w (ncA c (.slice a1 6 j)) 25 _ rfl).alloc (.cells #[.slice a n k] 27)).alloc (.cells zeroN 25)).alloc (.cells #[.slice none 0 0] 27)
    have kM : Blk ((((w.alloc (.cells (ncA c (.slice a1 6 j)) 25)).alloc (.cells #[.slice a n k] 27)).alloc (.cells zeroN 25)).alloc (.cells #[.slice none 0 0] 27)) (w.heap.size + 1) #[.slice a n k] 27 := ((Blk.new (w.alloc (.cells (ncA c (.slice a1 6 j)) 25)) #[.slice a n k] 27 _ (by simp)).alloc (.cells zeroN 25)).alloc (.cells #[.slice none 0 0] 27)
    have kR : Blk ((((w.alloc (.cells (ncA c (.slice a1 6 j)) 25)).alloc (.cells #[.slice a n k] 27)).alloc (.cells zeroN 25)).alloc (.cells #[.slice none 0 0] 27)) (w.heap.size + 2) zeroN 25 := (Blk.new ((w.alloc (.cells (ncA c (.slice a1 6 j)) 25)).alloc (.cells #[.slice a n k] 27)) zeroN 25 _ (by simp)).alloc (.cells #[.slice none 0 0] 27)
    have kQ : Blk ((((w.alloc (.cells (ncA c (.slice a1 6 j)) 25)).alloc (.cells #[.slice a n k] 27)).alloc (.cells zeroN 25)).alloc (.cells #[.slice none 0 0] 27)) (w.heap.size + 3) #[.slice none 0 0] 27 := Blk.new (((w.alloc (.cells (ncA c (.slice a1 6 j)) 25)).alloc (.cells #[.slice a n k] 27)).alloc (.cells zeroN 25)) #[.slice none 0 0] 27 _ (by simp)
    have g0 : Grew w ((((w.alloc (.cells (ncA c (.slice a1 6 j)) 25)).alloc (.cells #[.slice a n k] 27)).alloc (.cells zeroN 25)).alloc (.cells #[.slice none 0 0] 27)) := ((((Grew.refl w).alloc (.cells (ncA c (.slice a1 6 j)) 25)).alloc (.cells #[.slice a n k] 27)).alloc (.cells zeroN 25)).alloc (.cells #[.slice none 0 0] 27)
    generalize ((((w.alloc (.cells (ncA c (.slice a1 6 j)) 25)).alloc (.cells #[.slice a n k] 27)).alloc (.cells zeroN 25)).alloc (.cells #[.slice none 0 0] 27)) = w0 at *
    have lN : w.heap.size ≤ w.heap.size := by omega
    have lM : w.heap.size ≤ (w.heap.size + 1) := by omega
    have lR : w.heap.size ≤ (w.heap.size + 2) := by omega
    have lQ : w.heap.size ≤ (w.heap.size + 3) := by omega
    have nNM : w.heap.size ≠ (w.heap.size + 1) := by omega
    have nNR : w.heap.size ≠ (w.heap.size + 2) := by omega
    have nNQ : w.heap.size ≠ (w.heap.size + 3) := by omega
    have nMN : (w.heap.size + 1) ≠ w.heap.size := by omega
    have nMR : (w.heap.size + 1) ≠ (w.heap.size + 2) := by omega
    have nMQ : (w.heap.size + 1) ≠ (w.heap.size + 3) := by omega
    have nRN : (w.heap.size + 2) ≠ w.heap.size := by omega
    have nRM : (w.heap.size + 2) ≠ (w.heap.size + 1) := by omega
    have nRQ : (w.heap.size + 2) ≠ (w.heap.size + 3) := by omega
    have nQN : (w.heap.size + 3) ≠ w.heap.size := by omega
    have nQM : (w.heap.size + 3) ≠ (w.heap.size + 1) := by omega
    have nQR : (w.heap.size + 3) ≠ (w.heap.size + 2) := by omega
    generalize (w.heap.size + 3) = Q at *
    generalize (w.heap.size + 2) = R at *
    generalize (w.heap.size + 1) = M at *
    generalize hZ : w.heap.size = N at *
    have HZ := Lib.hid hZ
    clear hZ
    have LN : Hid (w.heap.size ≤ N) := Lib.hid (by rw [HZ.out]; exact lN)
    have LM : Hid (w.heap.size ≤ M) := Lib.hid (by rw [HZ.out]; exact lM)
    have LR : Hid (w.heap.size ≤ R) := Lib.hid (by rw [HZ.out]; exact lR)
    have LQ : Hid (w.heap.size ≤ Q) := Lib.hid (by rw [HZ.out]; exact lQ)
    go_wp2_with (refine ld_nc rfl (.tmp 3) rfl _ rfl kN (by rfl) ?_)
    refine (HC.out _).mono ?_
    rintro e w1 ⟨rfl, g1⟩
    have kN1 := kN.grew g1
    have kM1 := kM.grew g1
    have kR1 := kR.grew g1
    have kQ1 := kQ.grew g1
    replace g1 := g0.trans g1
    clear kN kM kR kQ g0
    have y0 : w1.cell? ⟨N, 0, none⟩ = some (.int .i64 (c 0)) := kN1.cell 0
    go_wp2_with (refine lw_nc (by rfl) (.tmp 3) rfl _ rfl kN1 (by rfl) ?_)
    refine (HWa.out _ (HN.out.grew g1) (HF.out.grew g1)).mono ?_
    rintro e w2 ⟨rfl, g2⟩
    replace kN1 := kN1.grew g2
    replace kM1 := kM1.grew g2
    replace kR1 := kR1.grew g2
    replace kQ1 := kQ1.grew g2
    replace g1 := g1.trans g2
    clear g2 y0
    have y9 : w2.cell? ⟨N, 9, none⟩ = some (.int .i64 (c 9)) := kN1.cell 9
    have y10 : w2.cell? ⟨N, 10, none⟩ = some (.int .i64 (c 10)) := kN1.cell 10
    go_upto_region 4 with fail
    clear q2 e2 qw u0 u9 y9 y10 HWa
    have kRc := kR1.drew
    have kQc := kQ1.drew
    have gc := g1.drew1
    clear kR1 kQ1 g1
    refine wp_region_held_drew (S := fun w' => Blk w' N (ncA c (.slice a1 6 j)) 25 ∧ Blk w' M #[.slice a n k] 27) (by kernel_rfl) (⟨kN1.drew, kM1.drew⟩) (fun hHeld => ?_)
    replace hHeld : Blk w2.drew N (ncA c (.slice a1 6 j)) 25 ∧ Blk w2.drew M #[.slice a n k] 27 := hHeld
    generalize w2.drew = wq0 at *
    refine wpAnyH_take (i := 0) (v := (ncV c (.slice a1 6 j))) rfl (by kernel_rfl) (by kernel_rfl) (by kernel_rfl) (fun _ _ _ h => h) (yl_nc rfl (by rfl) (by rfl) fun _ h => h.1) hHeld ?_
    try simp only [List.getElem_toArray, List.getElem_cons_succ, List.getElem_cons_zero, Act.put, List.setIfInBounds_toArray, List.set_cons_zero, List.set_cons_succ]
    refine wpAnyH_take (i := 2) (v := (.agg #[.slice a n k])) rfl (by kernel_rfl) (by kernel_rfl) (by kernel_rfl) (fun _ _ _ h => h) (yl_rm rfl (by rfl) (by rfl) fun _ h => h.2) hHeld ?_
    try simp only [List.getElem_toArray, List.getElem_cons_succ, List.getElem_cons_zero, Act.put, List.setIfInBounds_toArray, List.set_cons_zero, List.set_cons_succ]
    refine wpAnyH_ready (rs := [1]) (by kernel_rfl) (by simp) ?_
    refine AllReadyH.cons rfl (fun K hK => ?_) AllReadyH.nil
    go_simp
    refine Calls.mono (hDr.out _) ?_
    rintro e wa1 ⟨rfl, ga⟩
    refine hK.out _ _ (⟨hHeld.1.grew ga, hHeld.2.grew ga⟩) (fun hHeld => ?_)
    clear hK K
    replace kRc := kRc.grew ga
    replace kQc := kQc.grew ga
    replace gc := gc.trans ga
    clear ga
    try simp only [List.getElem_toArray, List.getElem_cons_succ, List.getElem_cons_zero, Act.put, List.setIfInBounds_toArray, List.set_cons_zero, List.set_cons_succ]
    refine wpAnyH_ready (rs := [3]) (by kernel_rfl) (by simp) ?_
    refine AllReadyH.cons rfl (fun K hK => ?_) AllReadyH.nil
    refine step_st_nc rfl (.tmp 6) (.tmp 50) rfl rfl (dropC c) kRc rfl (by rfl) (by rfl) ⟨_, _, _, rfl⟩ ?_
    intro wd kRd od
    refine hK.out _ _ (⟨hHeld.1.only od nNR, hHeld.2.only od nMR⟩) (fun hHeld => ?_)
    clear hK K
    have kQd := kQc.only od nQR
    have gd : Grew w wd := od.grew gc LR.out
    clear kRc kQc gc od
    try simp only [List.getElem_toArray, List.getElem_cons_succ, List.getElem_cons_zero, Act.put, List.setIfInBounds_toArray, List.set_cons_zero, List.set_cons_succ]
    refine wpAnyH_ready (rs := [4]) (by kernel_rfl) (by simp) ?_
    refine AllReadyH.cons rfl (fun K hK => ?_) AllReadyH.nil
    refine step_st_rm rfl (.tmp 7) (.tmp 51) rfl rfl kQd rfl (by rfl) (by rfl) ⟨_, _, _, rfl⟩ ?_
    intro we kQe oe
    refine hK.out _ _ (⟨hHeld.1.only oe nNQ, hHeld.2.only oe nMQ⟩) (fun hHeld => ?_)
    clear hK K
    have kRe := kRd.only oe nRQ
    have ge : Grew w we := oe.grew gd LQ.out
    clear kRd kQd gd oe
    try simp only [List.getElem_toArray, List.getElem_cons_succ, List.getElem_cons_zero, Act.put, List.setIfInBounds_toArray, List.set_cons_zero, List.set_cons_succ]
    refine wpAnyH_take (i := 5) (v := ?_) rfl (by kernel_rfl) (by kernel_rfl) (by kernel_rfl) (fun _ _ _ h => h) (Or.inl ⟨by rfl, ?_⟩) hHeld ?_
    rotate_left
    · intro wq hSw
      replace hSw : Blk wq N (ncA c (.slice a1 6 j)) 25 ∧ Blk wq M #[.slice a n k] 27 := hSw
      go_simp
      try with_reducible rfl
    try simp only [List.getElem_toArray, List.getElem_cons_succ, List.getElem_cons_zero, Act.put, List.setIfInBounds_toArray, List.set_cons_zero, List.set_cons_succ]
    refine wpAnyH_done (by kernel_rfl) ?_ _
    try simp only [List.getElem_toArray, List.getElem_cons_succ, List.getElem_cons_zero, Act.put, List.setIfInBounds_toArray, List.set_cons_zero, List.set_cons_succ]
    go_wp2_with fail
    exact bodyPost_ret (v := .tuple #[ncV (dropC c) (.slice a1 6 j), .agg #[.slice a n k], .bool false]) (results_3 (p := 6) (q := 7) (r := 8) Try.results28 _ _ R Q kRe kQe rfl rfl) rfl ⟨_, _, _, _, _, rfl, Lib.hid (HN.out.grew ge), Lib.hid (HM.out.grew ge), ge⟩
set_option maxHeartbeats 8000000 in
theorem rRecv_broke {c : Nat → Int} {m : List Int} {a1 : Option Addr} {j : Nat} {a : Option Addr} {n k : Nat} {xs : List Int} {fa : Option Addr} {fk : Nat} {fs : List Int} {w : World} (hN : Buf w (.slice a1 m.length j) m) (hM : Buf w (.slice a n k) xs) (hF : Buf w (.slice fa fs.length fk) fs) (hl : xs.length ≤ 140737488355328) (h6 : m.length = 6) (hc : ROk c) (h1 : ¬ (fs.length : Int) < 14) (h2 : ¬ 1514 < (fs.length : Int)) (u0 : (c 0 / 2 % 2 == 0) = false) (hb : wantedB c m fs = true) (u9 : (c 9 == c 10) = false) (hin : insideV xs.length (atR c) 16 = false) : Calls Try.prog 28 #[ncV c (.slice a1 6 j), .agg #[.slice a n k], .slice fa fs.length fk] w fun e w' => ∃ a1 k1 a2 n2 k2, e = .returned (.tuple #[ncV (dropC (broker c)) (.slice a1 6 k1), .agg #[.slice a2 n2 k2], .bool false]) ∧ Hid (Buf w' (.slice a1 6 k1) m) ∧ Hid (Buf w' (.slice a2 n2 k2) xs) ∧ Grew w w' := by
  have hC := rCheck_c c a1 6 j
  rw [ok_chk hc] at hC
  have HC := Lib.hid hC
  rw [h6] at hN
  have hWa := fun (w : World) (h : Buf w (.slice a1 6 j) m) (hf : Buf w (.slice fa fs.length fk) fs) (hl : 6 ≤ fs.length) => wanted_c hc.r0.1 hc.r0.2 h hf hl
  have q2 : (c 0).tdiv 2 = c 0 / 2 := Int.tdiv_eq_ediv_of_nonneg hc.r0.1
  have e2 : (c 0 / 2).tmod 2 = c 0 / 2 % 2 := Int.tmod_eq_emod_of_nonneg (by have := hc.r0.1; omega)
  have qw : wrap64 (c 0 / 2) = c 0 / 2 := IntWalk.wrap64_in _ (by have := hc.r0; omega)
  have h14 : 6 ≤ fs.length := by omega
  have HWa := Lib.hid (fun (w : World) (h : Buf w (.slice a1 6 j) m) (hf : Buf w (.slice fa fs.length fk) fs) => (show Calls _ _ _ _ fun e w' => e = .returned (.bool true) ∧ Grew w w' from hb ▸ hWa w h hf h14))
  have d1 : decide ((fs.length : Int) < 14) = false := decide_eq_false h1
  have d2 : decide (1514 < (fs.length : Int)) = false := decide_eq_false h2
  clear hWa hb h14 h1 h2
  have r7 := hc.r7
  have r8 := hc.r8
  have r9 := hc.r9
  have q1 : IntKind.u64.wrap (c 9) = c 9 := IntWalk.u64_in _ (by omega)
  have q3 : IntKind.u64.wrap (16 * c 9) = 16 * c 9 := IntWalk.u64_in _ (by omega)
  have q4 : IntKind.u64.wrap (c 7 + 16 * c 9) = c 7 + 16 * c 9 := IntWalk.u64_in _ (by omega)
  have hBy := Lib.hid (fun (w : World) (h : Buf w (.slice a n k) xs) => refBytes_c (c 7 + 16 * c 9) 16 (by omega) (by omega) (by decide) (by decide) w h hl)
  have hA : atR c = c 7 + 16 * c 9 := rfl
  rw [hA] at hin
  rw [hin] at hBy
  generalize bytesV xs (c 7 + 16 * c 9) 16 = ds at *
  have r0 := hc.r0
  have hb2 : 2 ≤ c 0 := by
    have hz : c 0 / 2 % 2 ≠ 0 := by simpa using u0
    omega
  have hsb : IntKind.i64.wrap (c 0 - 2) = c 0 - 2 := IntWalk.i64_in _ (by omega)
  have hWr := Lib.hid (fun (w : World) => rwrong_c (c := (upd c 0 (c 0 - 2))) hc.r12.1 hc.r12.2 hc.r1.1 hc.r1.2 a1 6 j w)
  have hoR : 0 ≤ orB 4 (c 1) ∧ orB 4 (c 1) < 16 := orB_lt (by simp) hc.r1.1 hc.r1.2
  have hDr := Lib.hid (fun (w : World) => rdrop_c (c := broker c) hc.r11.1 hc.r11.2 hoR.1 hoR.2 a1 6 j w)
  have HSB := Lib.hid hsb
  have HN := Lib.hid hN
  have HM := Lib.hid hM
  have HF := Lib.hid hF
  clear hC hN hM hF hl hc h6 hin hA r7 r8 r9 r0 hb2 hsb hoR
  go_enter Try.func28, Try.ntmps28
  go_upto_region 1 with fail
  have kN : Blk ((((w.alloc (.cells (ncA c (.slice a1 6 j)) 25)).alloc (.cells #[.slice a n k] 27)).alloc (.cells zeroN 25)).alloc (.cells #[.slice none 0 0] 27)) w.heap.size (ncA c (.slice a1 6 j)) 25 := (((Blk.new w (ncA c (.slice a1 6 j)) 25 _ rfl).alloc (.cells #[.slice a n k] 27)).alloc (.cells zeroN 25)).alloc (.cells #[.slice none 0 0] 27)
  have kM : Blk ((((w.alloc (.cells (ncA c (.slice a1 6 j)) 25)).alloc (.cells #[.slice a n k] 27)).alloc (.cells zeroN 25)).alloc (.cells #[.slice none 0 0] 27)) (w.heap.size + 1) #[.slice a n k] 27 := ((Blk.new (w.alloc (.cells (ncA c (.slice a1 6 j)) 25)) #[.slice a n k] 27 _ (by simp)).alloc (.cells zeroN 25)).alloc (.cells #[.slice none 0 0] 27)
  have kR : Blk ((((w.alloc (.cells (ncA c (.slice a1 6 j)) 25)).alloc (.cells #[.slice a n k] 27)).alloc (.cells zeroN 25)).alloc (.cells #[.slice none 0 0] 27)) (w.heap.size + 2) zeroN 25 := (Blk.new ((w.alloc (.cells (ncA c (.slice a1 6 j)) 25)).alloc (.cells #[.slice a n k] 27)) zeroN 25 _ (by simp)).alloc (.cells #[.slice none 0 0] 27)
  have kQ : Blk ((((w.alloc (.cells (ncA c (.slice a1 6 j)) 25)).alloc (.cells #[.slice a n k] 27)).alloc (.cells zeroN 25)).alloc (.cells #[.slice none 0 0] 27)) (w.heap.size + 3) #[.slice none 0 0] 27 := Blk.new (((w.alloc (.cells (ncA c (.slice a1 6 j)) 25)).alloc (.cells #[.slice a n k] 27)).alloc (.cells zeroN 25)) #[.slice none 0 0] 27 _ (by simp)
  have g0 : Grew w ((((w.alloc (.cells (ncA c (.slice a1 6 j)) 25)).alloc (.cells #[.slice a n k] 27)).alloc (.cells zeroN 25)).alloc (.cells #[.slice none 0 0] 27)) := ((((Grew.refl w).alloc (.cells (ncA c (.slice a1 6 j)) 25)).alloc (.cells #[.slice a n k] 27)).alloc (.cells zeroN 25)).alloc (.cells #[.slice none 0 0] 27)
  generalize ((((w.alloc (.cells (ncA c (.slice a1 6 j)) 25)).alloc (.cells #[.slice a n k] 27)).alloc (.cells zeroN 25)).alloc (.cells #[.slice none 0 0] 27)) = w0 at *
  have lN : w.heap.size ≤ w.heap.size := by omega
  have lM : w.heap.size ≤ (w.heap.size + 1) := by omega
  have lR : w.heap.size ≤ (w.heap.size + 2) := by omega
  have lQ : w.heap.size ≤ (w.heap.size + 3) := by omega
  have nNM : w.heap.size ≠ (w.heap.size + 1) := by omega
  have nNR : w.heap.size ≠ (w.heap.size + 2) := by omega
  have nNQ : w.heap.size ≠ (w.heap.size + 3) := by omega
  have nMN : (w.heap.size + 1) ≠ w.heap.size := by omega
  have nMR : (w.heap.size + 1) ≠ (w.heap.size + 2) := by omega
  have nMQ : (w.heap.size + 1) ≠ (w.heap.size + 3) := by omega
  have nRN : (w.heap.size + 2) ≠ w.heap.size := by omega
  have nRM : (w.heap.size + 2) ≠ (w.heap.size + 1) := by omega
  have nRQ : (w.heap.size + 2) ≠ (w.heap.size + 3) := by omega
  have nQN : (w.heap.size + 3) ≠ w.heap.size := by omega
  have nQM : (w.heap.size + 3) ≠ (w.heap.size + 1) := by omega
  have nQR : (w.heap.size + 3) ≠ (w.heap.size + 2) := by omega
  generalize (w.heap.size + 3) = Q at *
  generalize (w.heap.size + 2) = R at *
  generalize (w.heap.size + 1) = M at *
  generalize hZ : w.heap.size = N at *
  have HZ := Lib.hid hZ
  clear hZ
  have LN : Hid (w.heap.size ≤ N) := Lib.hid (by rw [HZ.out]; exact lN)
  have LM : Hid (w.heap.size ≤ M) := Lib.hid (by rw [HZ.out]; exact lM)
  have LR : Hid (w.heap.size ≤ R) := Lib.hid (by rw [HZ.out]; exact lR)
  have LQ : Hid (w.heap.size ≤ Q) := Lib.hid (by rw [HZ.out]; exact lQ)
  go_wp2_with (refine ld_nc rfl (.tmp 3) rfl _ rfl kN (by rfl) ?_)
  refine (HC.out _).mono ?_
  rintro e w1 ⟨rfl, g1⟩
  have kN1 := kN.grew g1
  have kM1 := kM.grew g1
  have kR1 := kR.grew g1
  have kQ1 := kQ.grew g1
  replace g1 := g0.trans g1
  clear kN kM kR kQ g0
  have y0 : w1.cell? ⟨N, 0, none⟩ = some (.int .i64 (c 0)) := kN1.cell 0
  go_wp2_with (refine lw_nc (by rfl) (.tmp 3) rfl _ rfl kN1 (by rfl) ?_)
  refine (HWa.out _ (HN.out.grew g1) (HF.out.grew g1)).mono ?_
  rintro e w2 ⟨rfl, g2⟩
  replace kN1 := kN1.grew g2
  replace kM1 := kM1.grew g2
  replace kR1 := kR1.grew g2
  replace kQ1 := kQ1.grew g2
  replace g1 := g1.trans g2
  clear g2 y0
  have y7 : w2.cell? ⟨N, 7, none⟩ = some (.int .u64 (c 7)) := kN1.cell 7
  have y9 : w2.cell? ⟨N, 9, none⟩ = some (.int .i64 (c 9)) := kN1.cell 9
  have y10 : w2.cell? ⟨N, 10, none⟩ = some (.int .i64 (c 10)) := kN1.cell 10
  go_upto_region 6 with fail
  clear q2 e2 qw u0 u9 y9 y10 y7 HWa q1 q3 q4
  go_wp2_with (refine ld_rm rfl (.tmp 4) rfl _ rfl kM1 (by rfl) ?_)
  refine (hBy.out _ (HM.out.grew g1)).mono ?_
  rintro e w3 ⟨u, rfl, HB, g2⟩
  obtain ⟨ub, uk, rfl, hx1, hx2⟩ := HB.shape
  clear hx1 hx2
  replace kN1 := kN1.grew g2
  replace kM1 := kM1.grew g2
  replace kR1 := kR1.grew g2
  replace kQ1 := kQ1.grew g2
  replace g1 := g1.trans g2
  clear g2 hBy
  clear HB
  have y0 : w3.cell? ⟨N, 0, none⟩ = some (.int .i64 (c 0)) := kN1.cell 0
  have f0 := kN1.free 0
  have hsb := HSB.out
  go_upto_region 9 with fail
  have kN2 := kN1.nc (by decide : 0 < 13) (by decide) (by decide) (c 0 - 2)
  have o1 := Only.set w3 N 0 (.int .i64 (c 0 - 2))
  have kM2 := kM1.only o1 nMN
  have kR2 := kR1.only o1 nRN
  have kQ2 := kQ1.only o1 nQN
  have g2 : Grew w _ := o1.grew g1 LN.out
  clear y0 f0 hsb kN1 kM1 kR1 kQ1 g1 o1 HSB
  generalize (w3.setCell ⟨N, 0, none⟩ (.int .i64 (c 0 - 2))) = w4 at *
  have kN1 := kN2
  have kM1 := kM2
  have kR1 := kR2
  have kQ1 := kQ2
  have g1 := g2
  clear kN2 kM2 kR2 kQ2 g2
  have kRc := kR1.drew
  have kQc := kQ1.drew
  have gc := g1.drew1
  clear kR1 kQ1 g1
  refine wp_region_held_drew (S := fun w' => Blk w' N (ncA (upd c 0 (c 0 - 2)) (.slice a1 6 j)) 25 ∧ Blk w' M #[.slice a n k] 27) (by kernel_rfl) (⟨kN1.drew, kM1.drew⟩) (fun hHeld => ?_)
  replace hHeld : Blk w4.drew N (ncA (upd c 0 (c 0 - 2)) (.slice a1 6 j)) 25 ∧ Blk w4.drew M #[.slice a n k] 27 := hHeld
  generalize w4.drew = wq0 at *
  refine wpAnyH_take (i := 0) (v := (ncV (upd c 0 (c 0 - 2)) (.slice a1 6 j))) rfl (by kernel_rfl) (by kernel_rfl) (by kernel_rfl) (fun _ _ _ h => h) (yl_nc rfl (by rfl) (by rfl) fun _ h => h.1) hHeld ?_
  try simp only [List.getElem_toArray, List.getElem_cons_succ, List.getElem_cons_zero, Act.put, List.setIfInBounds_toArray, List.set_cons_zero, List.set_cons_succ]
  refine wpAnyH_take (i := 3) (v := (.agg #[.slice a n k])) rfl (by kernel_rfl) (by kernel_rfl) (by kernel_rfl) (fun _ _ _ h => h) (yl_rm rfl (by rfl) (by rfl) fun _ h => h.2) hHeld ?_
  try simp only [List.getElem_toArray, List.getElem_cons_succ, List.getElem_cons_zero, Act.put, List.setIfInBounds_toArray, List.set_cons_zero, List.set_cons_succ]
  refine wpAnyH_ready (rs := [1]) (by kernel_rfl) (by simp) ?_
  refine AllReadyH.cons rfl (fun K hK => ?_) AllReadyH.nil
  go_simp
  refine Calls.mono (hWr.out _) ?_
  rintro e wa1 ⟨rfl, ga⟩
  refine hK.out _ _ (⟨hHeld.1.grew ga, hHeld.2.grew ga⟩) (fun hHeld => ?_)
  clear hK K
  replace kRc := kRc.grew ga
  replace kQc := kQc.grew ga
  replace gc := gc.trans ga
  clear ga
  try simp only [List.getElem_toArray, List.getElem_cons_succ, List.getElem_cons_zero, Act.put, List.setIfInBounds_toArray, List.set_cons_zero, List.set_cons_succ]
  refine wpAnyH_ready (rs := [2]) (by kernel_rfl) (by simp) ?_
  refine AllReadyH.cons rfl (fun K hK => ?_) AllReadyH.nil
  go_simp
  refine Calls.mono (hDr.out _) ?_
  rintro e wa2 ⟨rfl, ga⟩
  refine hK.out _ _ (⟨hHeld.1.grew ga, hHeld.2.grew ga⟩) (fun hHeld => ?_)
  clear hK K
  replace kRc := kRc.grew ga
  replace kQc := kQc.grew ga
  replace gc := gc.trans ga
  clear ga
  try simp only [List.getElem_toArray, List.getElem_cons_succ, List.getElem_cons_zero, Act.put, List.setIfInBounds_toArray, List.set_cons_zero, List.set_cons_succ]
  refine wpAnyH_ready (rs := [4]) (by kernel_rfl) (by simp) ?_
  refine AllReadyH.cons rfl (fun K hK => ?_) AllReadyH.nil
  refine step_st_nc rfl (.tmp 6) (.tmp 73) rfl rfl (dropC (broker c)) kRc rfl (by rfl) (by rfl) ⟨_, _, _, rfl⟩ ?_
  intro wd kRd od
  refine hK.out _ _ (⟨hHeld.1.only od nNR, hHeld.2.only od nMR⟩) (fun hHeld => ?_)
  clear hK K
  have kQd := kQc.only od nQR
  have gd : Grew w wd := od.grew gc LR.out
  clear kRc kQc gc od
  try simp only [List.getElem_toArray, List.getElem_cons_succ, List.getElem_cons_zero, Act.put, List.setIfInBounds_toArray, List.set_cons_zero, List.set_cons_succ]
  refine wpAnyH_ready (rs := [5]) (by kernel_rfl) (by simp) ?_
  refine AllReadyH.cons rfl (fun K hK => ?_) AllReadyH.nil
  refine step_st_rm rfl (.tmp 7) (.tmp 74) rfl rfl kQd rfl (by rfl) (by rfl) ⟨_, _, _, rfl⟩ ?_
  intro we kQe oe
  refine hK.out _ _ (⟨hHeld.1.only oe nNQ, hHeld.2.only oe nMQ⟩) (fun hHeld => ?_)
  clear hK K
  have kRe := kRd.only oe nRQ
  have ge : Grew w we := oe.grew gd LQ.out
  clear kRd kQd gd oe
  try simp only [List.getElem_toArray, List.getElem_cons_succ, List.getElem_cons_zero, Act.put, List.setIfInBounds_toArray, List.set_cons_zero, List.set_cons_succ]
  refine wpAnyH_take (i := 6) (v := ?_) rfl (by kernel_rfl) (by kernel_rfl) (by kernel_rfl) (fun _ _ _ h => h) (Or.inl ⟨by rfl, ?_⟩) hHeld ?_
  rotate_left
  · intro wq hSw
    replace hSw : Blk wq N (ncA (upd c 0 (c 0 - 2)) (.slice a1 6 j)) 25 ∧ Blk wq M #[.slice a n k] 27 := hSw
    go_simp
    try with_reducible rfl
  try simp only [List.getElem_toArray, List.getElem_cons_succ, List.getElem_cons_zero, Act.put, List.setIfInBounds_toArray, List.set_cons_zero, List.set_cons_succ]
  refine wpAnyH_done (by kernel_rfl) ?_ _
  try simp only [List.getElem_toArray, List.getElem_cons_succ, List.getElem_cons_zero, Act.put, List.setIfInBounds_toArray, List.set_cons_zero, List.set_cons_succ]
  go_wp2_with fail
  exact bodyPost_ret (v := .tuple #[ncV (dropC (broker c)) (.slice a1 6 j), .agg #[.slice a n k], .bool false]) (results_3 (p := 6) (q := 7) (r := 8) Try.results28 _ _ R Q kRe kQe rfl rfl) rfl ⟨_, _, _, _, _, rfl, Lib.hid (HN.out.grew ge), Lib.hid (HM.out.grew ge), ge⟩
set_option maxHeartbeats 8000000 in
theorem rRecv_other {c : Nat → Int} {m : List Int} {a1 : Option Addr} {j : Nat} {a : Option Addr} {n k : Nat} {xs : List Int} {fa : Option Addr} {fk : Nat} {fs : List Int} {w : World} (hN : Buf w (.slice a1 m.length j) m) (hM : Buf w (.slice a n k) xs) (hF : Buf w (.slice fa fs.length fk) fs) (hl : xs.length ≤ 140737488355328) (h6 : m.length = 6) (hc : ROk c) (h1 : ¬ (fs.length : Int) < 14) (h2 : ¬ 1514 < (fs.length : Int)) (u0 : (c 0 / 2 % 2 == 0) = false) (hb : wantedB c m fs = true) (u9 : (c 9 == c 10) = false) (hin : insideV xs.length (atR c) 16 = true) (ho : ownB (bytesV xs (atR c) 16) = false) : Calls Try.prog 28 #[ncV c (.slice a1 6 j), .agg #[.slice a n k], .slice fa fs.length fk] w fun e w' => ∃ a1 k1 a2 n2 k2, e = .returned (.tuple #[ncV (dropC c) (.slice a1 6 k1), .agg #[.slice a2 n2 k2], .bool false]) ∧ Hid (Buf w' (.slice a1 6 k1) m) ∧ Hid (Buf w' (.slice a2 n2 k2) xs) ∧ Grew w w' := by
  have hC := rCheck_c c a1 6 j
  rw [ok_chk hc] at hC
  have HC := Lib.hid hC
  rw [h6] at hN
  have hWa := fun (w : World) (h : Buf w (.slice a1 6 j) m) (hf : Buf w (.slice fa fs.length fk) fs) (hl : 6 ≤ fs.length) => wanted_c hc.r0.1 hc.r0.2 h hf hl
  have q2 : (c 0).tdiv 2 = c 0 / 2 := Int.tdiv_eq_ediv_of_nonneg hc.r0.1
  have e2 : (c 0 / 2).tmod 2 = c 0 / 2 % 2 := Int.tmod_eq_emod_of_nonneg (by have := hc.r0.1; omega)
  have qw : wrap64 (c 0 / 2) = c 0 / 2 := IntWalk.wrap64_in _ (by have := hc.r0; omega)
  have h14 : 6 ≤ fs.length := by omega
  have HWa := Lib.hid (fun (w : World) (h : Buf w (.slice a1 6 j) m) (hf : Buf w (.slice fa fs.length fk) fs) => (show Calls _ _ _ _ fun e w' => e = .returned (.bool true) ∧ Grew w w' from hb ▸ hWa w h hf h14))
  have d1 : decide ((fs.length : Int) < 14) = false := decide_eq_false h1
  have d2 : decide (1514 < (fs.length : Int)) = false := decide_eq_false h2
  clear hWa hb h14 h1 h2
  have r7 := hc.r7
  have r8 := hc.r8
  have r9 := hc.r9
  have q1 : IntKind.u64.wrap (c 9) = c 9 := IntWalk.u64_in _ (by omega)
  have q3 : IntKind.u64.wrap (16 * c 9) = 16 * c 9 := IntWalk.u64_in _ (by omega)
  have q4 : IntKind.u64.wrap (c 7 + 16 * c 9) = c 7 + 16 * c 9 := IntWalk.u64_in _ (by omega)
  have hBy := Lib.hid (fun (w : World) (h : Buf w (.slice a n k) xs) => refBytes_c (c 7 + 16 * c 9) 16 (by omega) (by omega) (by decide) (by decide) w h hl)
  have hA : atR c = c 7 + 16 * c 9 := rfl
  rw [hA] at hin
  rw [hin] at hBy
  have hok := bytesV_ok hM.ok (c 7 + 16 * c 9) 16
  have h16 := bytesV_16 hin
  rw [hA] at ho
  rw [own_flag hok h16] at ho
  generalize bytesV xs (c 7 + 16 * c 9) 16 = ds at *
  have hd := hok.getD 10
  have d0 : (ds.getD 10 0).tmod 2 = ds.getD 10 0 % 2 := Int.tmod_eq_emod_of_nonneg hd.1
  have v0 : (ds.getD 10 0 % 2 == 0) = true := by
    unfold bitB at ho
    rw [Int.ediv_one] at ho
    simp only [beq_eq_false_iff_ne, beq_iff_eq, ne_eq] at ho ⊢
    omega
  generalize hf0 : ds.getD 10 0 = f0 at *
  have Hf0 := Lib.hid hf0
  have HD0 := Lib.hid (And.intro d0 v0)
  have H16 := Lib.hid h16
  have hDr := Lib.hid (fun (w : World) => rdrop_c (c := c) hc.r11.1 hc.r11.2 hc.r1.1 hc.r1.2 a1 6 j w)
  have HN := Lib.hid hN
  have HM := Lib.hid hM
  have HF := Lib.hid hF
  clear hC hN hM hF hl hc h6 hin hA ho hok h16 hd d0 v0 hf0 r7 r8 r9
  go_enter Try.func28, Try.ntmps28
  go_upto_region 1 with fail
  have kN : Blk ((((w.alloc (.cells (ncA c (.slice a1 6 j)) 25)).alloc (.cells #[.slice a n k] 27)).alloc (.cells zeroN 25)).alloc (.cells #[.slice none 0 0] 27)) w.heap.size (ncA c (.slice a1 6 j)) 25 := (((Blk.new w (ncA c (.slice a1 6 j)) 25 _ rfl).alloc (.cells #[.slice a n k] 27)).alloc (.cells zeroN 25)).alloc (.cells #[.slice none 0 0] 27)
  have kM : Blk ((((w.alloc (.cells (ncA c (.slice a1 6 j)) 25)).alloc (.cells #[.slice a n k] 27)).alloc (.cells zeroN 25)).alloc (.cells #[.slice none 0 0] 27)) (w.heap.size + 1) #[.slice a n k] 27 := ((Blk.new (w.alloc (.cells (ncA c (.slice a1 6 j)) 25)) #[.slice a n k] 27 _ (by simp)).alloc (.cells zeroN 25)).alloc (.cells #[.slice none 0 0] 27)
  have kR : Blk ((((w.alloc (.cells (ncA c (.slice a1 6 j)) 25)).alloc (.cells #[.slice a n k] 27)).alloc (.cells zeroN 25)).alloc (.cells #[.slice none 0 0] 27)) (w.heap.size + 2) zeroN 25 := (Blk.new ((w.alloc (.cells (ncA c (.slice a1 6 j)) 25)).alloc (.cells #[.slice a n k] 27)) zeroN 25 _ (by simp)).alloc (.cells #[.slice none 0 0] 27)
  have kQ : Blk ((((w.alloc (.cells (ncA c (.slice a1 6 j)) 25)).alloc (.cells #[.slice a n k] 27)).alloc (.cells zeroN 25)).alloc (.cells #[.slice none 0 0] 27)) (w.heap.size + 3) #[.slice none 0 0] 27 := Blk.new (((w.alloc (.cells (ncA c (.slice a1 6 j)) 25)).alloc (.cells #[.slice a n k] 27)).alloc (.cells zeroN 25)) #[.slice none 0 0] 27 _ (by simp)
  have g0 : Grew w ((((w.alloc (.cells (ncA c (.slice a1 6 j)) 25)).alloc (.cells #[.slice a n k] 27)).alloc (.cells zeroN 25)).alloc (.cells #[.slice none 0 0] 27)) := ((((Grew.refl w).alloc (.cells (ncA c (.slice a1 6 j)) 25)).alloc (.cells #[.slice a n k] 27)).alloc (.cells zeroN 25)).alloc (.cells #[.slice none 0 0] 27)
  generalize ((((w.alloc (.cells (ncA c (.slice a1 6 j)) 25)).alloc (.cells #[.slice a n k] 27)).alloc (.cells zeroN 25)).alloc (.cells #[.slice none 0 0] 27)) = w0 at *
  have lN : w.heap.size ≤ w.heap.size := by omega
  have lM : w.heap.size ≤ (w.heap.size + 1) := by omega
  have lR : w.heap.size ≤ (w.heap.size + 2) := by omega
  have lQ : w.heap.size ≤ (w.heap.size + 3) := by omega
  have nNM : w.heap.size ≠ (w.heap.size + 1) := by omega
  have nNR : w.heap.size ≠ (w.heap.size + 2) := by omega
  have nNQ : w.heap.size ≠ (w.heap.size + 3) := by omega
  have nMN : (w.heap.size + 1) ≠ w.heap.size := by omega
  have nMR : (w.heap.size + 1) ≠ (w.heap.size + 2) := by omega
  have nMQ : (w.heap.size + 1) ≠ (w.heap.size + 3) := by omega
  have nRN : (w.heap.size + 2) ≠ w.heap.size := by omega
  have nRM : (w.heap.size + 2) ≠ (w.heap.size + 1) := by omega
  have nRQ : (w.heap.size + 2) ≠ (w.heap.size + 3) := by omega
  have nQN : (w.heap.size + 3) ≠ w.heap.size := by omega
  have nQM : (w.heap.size + 3) ≠ (w.heap.size + 1) := by omega
  have nQR : (w.heap.size + 3) ≠ (w.heap.size + 2) := by omega
  generalize (w.heap.size + 3) = Q at *
  generalize (w.heap.size + 2) = R at *
  generalize (w.heap.size + 1) = M at *
  generalize hZ : w.heap.size = N at *
  have HZ := Lib.hid hZ
  clear hZ
  have LN : Hid (w.heap.size ≤ N) := Lib.hid (by rw [HZ.out]; exact lN)
  have LM : Hid (w.heap.size ≤ M) := Lib.hid (by rw [HZ.out]; exact lM)
  have LR : Hid (w.heap.size ≤ R) := Lib.hid (by rw [HZ.out]; exact lR)
  have LQ : Hid (w.heap.size ≤ Q) := Lib.hid (by rw [HZ.out]; exact lQ)
  go_wp2_with (refine ld_nc rfl (.tmp 3) rfl _ rfl kN (by rfl) ?_)
  refine (HC.out _).mono ?_
  rintro e w1 ⟨rfl, g1⟩
  have kN1 := kN.grew g1
  have kM1 := kM.grew g1
  have kR1 := kR.grew g1
  have kQ1 := kQ.grew g1
  replace g1 := g0.trans g1
  clear kN kM kR kQ g0
  have y0 : w1.cell? ⟨N, 0, none⟩ = some (.int .i64 (c 0)) := kN1.cell 0
  go_wp2_with (refine lw_nc (by rfl) (.tmp 3) rfl _ rfl kN1 (by rfl) ?_)
  refine (HWa.out _ (HN.out.grew g1) (HF.out.grew g1)).mono ?_
  rintro e w2 ⟨rfl, g2⟩
  replace kN1 := kN1.grew g2
  replace kM1 := kM1.grew g2
  replace kR1 := kR1.grew g2
  replace kQ1 := kQ1.grew g2
  replace g1 := g1.trans g2
  clear g2 y0
  have y7 : w2.cell? ⟨N, 7, none⟩ = some (.int .u64 (c 7)) := kN1.cell 7
  have y9 : w2.cell? ⟨N, 9, none⟩ = some (.int .i64 (c 9)) := kN1.cell 9
  have y10 : w2.cell? ⟨N, 10, none⟩ = some (.int .i64 (c 10)) := kN1.cell 10
  go_upto_region 6 with fail
  clear q2 e2 qw u0 u9 y9 y10 y7 HWa q1 q3 q4
  go_wp2_with (refine ld_rm rfl (.tmp 4) rfl _ rfl kM1 (by rfl) ?_)
  refine (hBy.out _ (HM.out.grew g1)).mono ?_
  rintro e w3 ⟨u, rfl, HB, g2⟩
  obtain ⟨ub, uk, rfl, hx1, hx2⟩ := HB.shape
  clear hx1 hx2
  replace kN1 := kN1.grew g2
  replace kM1 := kM1.grew g2
  replace kR1 := kR1.grew g2
  replace kQ1 := kQ1.grew g2
  replace g1 := g1.trans g2
  clear g2 hBy
  obtain ⟨b1, o1, eb1, c10, l10⟩ := HB.at 10 (by rw [H16.out]; decide) _ Hf0.out
  subst eb1
  obtain ⟨d0, v0⟩ := HD0.out
  have h10 : (10 : Int) < (ds.length : Int) := by rw [H16.out]; decide
  go_upto_region 11 with fail
  clear c10 l10 d0 v0 h10
  clear HB
  have kRc := kR1.drew
  have kQc := kQ1.drew
  have gc := g1.drew1
  clear kR1 kQ1 g1
  refine wp_region_held_drew (S := fun w' => Blk w' N (ncA c (.slice a1 6 j)) 25 ∧ Blk w' M #[.slice a n k] 27) (by kernel_rfl) (⟨kN1.drew, kM1.drew⟩) (fun hHeld => ?_)
  replace hHeld : Blk w3.drew N (ncA c (.slice a1 6 j)) 25 ∧ Blk w3.drew M #[.slice a n k] 27 := hHeld
  generalize w3.drew = wq0 at *
  refine wpAnyH_take (i := 0) (v := (ncV c (.slice a1 6 j))) rfl (by kernel_rfl) (by kernel_rfl) (by kernel_rfl) (fun _ _ _ h => h) (yl_nc rfl (by rfl) (by rfl) fun _ h => h.1) hHeld ?_
  try simp only [List.getElem_toArray, List.getElem_cons_succ, List.getElem_cons_zero, Act.put, List.setIfInBounds_toArray, List.set_cons_zero, List.set_cons_succ]
  refine wpAnyH_take (i := 2) (v := (.agg #[.slice a n k])) rfl (by kernel_rfl) (by kernel_rfl) (by kernel_rfl) (fun _ _ _ h => h) (yl_rm rfl (by rfl) (by rfl) fun _ h => h.2) hHeld ?_
  try simp only [List.getElem_toArray, List.getElem_cons_succ, List.getElem_cons_zero, Act.put, List.setIfInBounds_toArray, List.set_cons_zero, List.set_cons_succ]
  refine wpAnyH_ready (rs := [1]) (by kernel_rfl) (by simp) ?_
  refine AllReadyH.cons rfl (fun K hK => ?_) AllReadyH.nil
  go_simp
  refine Calls.mono (hDr.out _) ?_
  rintro e wa1 ⟨rfl, ga⟩
  refine hK.out _ _ (⟨hHeld.1.grew ga, hHeld.2.grew ga⟩) (fun hHeld => ?_)
  clear hK K
  replace kRc := kRc.grew ga
  replace kQc := kQc.grew ga
  replace gc := gc.trans ga
  clear ga
  try simp only [List.getElem_toArray, List.getElem_cons_succ, List.getElem_cons_zero, Act.put, List.setIfInBounds_toArray, List.set_cons_zero, List.set_cons_succ]
  refine wpAnyH_ready (rs := [3]) (by kernel_rfl) (by simp) ?_
  refine AllReadyH.cons rfl (fun K hK => ?_) AllReadyH.nil
  refine step_st_nc rfl (.tmp 6) (.tmp 81) rfl rfl (dropC c) kRc rfl (by rfl) (by rfl) ⟨_, _, _, rfl⟩ ?_
  intro wd kRd od
  refine hK.out _ _ (⟨hHeld.1.only od nNR, hHeld.2.only od nMR⟩) (fun hHeld => ?_)
  clear hK K
  have kQd := kQc.only od nQR
  have gd : Grew w wd := od.grew gc LR.out
  clear kRc kQc gc od
  try simp only [List.getElem_toArray, List.getElem_cons_succ, List.getElem_cons_zero, Act.put, List.setIfInBounds_toArray, List.set_cons_zero, List.set_cons_succ]
  refine wpAnyH_ready (rs := [4]) (by kernel_rfl) (by simp) ?_
  refine AllReadyH.cons rfl (fun K hK => ?_) AllReadyH.nil
  refine step_st_rm rfl (.tmp 7) (.tmp 82) rfl rfl kQd rfl (by rfl) (by rfl) ⟨_, _, _, rfl⟩ ?_
  intro we kQe oe
  refine hK.out _ _ (⟨hHeld.1.only oe nNQ, hHeld.2.only oe nMQ⟩) (fun hHeld => ?_)
  clear hK K
  have kRe := kRd.only oe nRQ
  have ge : Grew w we := oe.grew gd LQ.out
  clear kRd kQd gd oe
  try simp only [List.getElem_toArray, List.getElem_cons_succ, List.getElem_cons_zero, Act.put, List.setIfInBounds_toArray, List.set_cons_zero, List.set_cons_succ]
  refine wpAnyH_take (i := 5) (v := ?_) rfl (by kernel_rfl) (by kernel_rfl) (by kernel_rfl) (fun _ _ _ h => h) (Or.inl ⟨by rfl, ?_⟩) hHeld ?_
  rotate_left
  · intro wq hSw
    replace hSw : Blk wq N (ncA c (.slice a1 6 j)) 25 ∧ Blk wq M #[.slice a n k] 27 := hSw
    go_simp
    try with_reducible rfl
  try simp only [List.getElem_toArray, List.getElem_cons_succ, List.getElem_cons_zero, Act.put, List.setIfInBounds_toArray, List.set_cons_zero, List.set_cons_succ]
  refine wpAnyH_done (by kernel_rfl) ?_ _
  try simp only [List.getElem_toArray, List.getElem_cons_succ, List.getElem_cons_zero, Act.put, List.setIfInBounds_toArray, List.set_cons_zero, List.set_cons_succ]
  go_wp2_with fail
  exact bodyPost_ret (v := .tuple #[ncV (dropC c) (.slice a1 6 j), .agg #[.slice a n k], .bool false]) (results_3 (p := 6) (q := 7) (r := 8) Try.results28 _ _ R Q kRe kQe rfl rfl) rfl ⟨_, _, _, _, _, rfl, Lib.hid (HN.out.grew ge), Lib.hid (HM.out.grew ge), ge⟩
end Go.Proofs.Ytoehdhhodidehaa
