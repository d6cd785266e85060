/-
  Package nic: a frame that is received.
-/
import Derived.Test.YtoehdhhodidehaaRows
import Derived.Test.YtoehdhhodidehaaNcM
import Derived.WalkKit
import Derived.Outline
import Derived.Handy
import Derived.StillTailTactics
import Derived.Deep.QuietTactic
import Derived.BigQuiet
import Derived.Deep.DeepCutAuto
import Derived.Deep.RegionHeld3
import Derived.Great.BuildSlice
import Derived.Deep.WholeRow
import Derived.Lib.SliceRun
import Derived.BigFrame
set_option maxRecDepth 4000
set_option linter.unusedVariables false
set_option linter.unusedSimpArgs false
namespace Go.Proofs.Ytoehdhhodidehaa
open Go.RowKit

set_option maxHeartbeats 2000000 in
theorem recv_good {c : Nat → Int} {p : Nat} {w : World} {a : Option Addr} {n m : Nat} {xs : List Int} {fa : Option Addr} {fn fm : Nat} {fs : List Int} (hB : Blk w p (rgA c) 80) (hM : Buf w (.slice a n m) xs) (hl : xs.length ≤ 140737488355328) (hF : Buf w (.slice fa fn fm) fs) (hc : ROk c) (ht : takesB c fs = true) (hw : waitsr c = true) (hin : insideV xs.length (c 7 + 16 * c 9) 16 = true) {ds : List Int} (hds : bytesV xs (c 7 + 16 * c 9) 16 = ds) (hown : ownB ds = true) (hlt : ¬ (lenV ds < (fs.length : Int))) (hi : insideV xs.length (adrV ds) (fs.length : Int) = true) :
    Calls Try.prog 47 #[.pointer (some ⟨p, 0, none⟩), .agg #[.slice a n m], .slice fa fn fm] w fun e w' => ∃ a1 n1 m1, e = .returned (.tuple #[.agg #[.slice a1 n1 m1], .bool true]) ∧ Hid (Buf w' (.slice a1 n1 m1) (writeV (fillV (writeV xs (c 7 + 16 * c 9 + 8) 2 (fs.length : Int)) (adrV ds) fs) (c 7 + 16 * c 9 + 10) 4 (bothV ds 1))) ∧ Blk w' p (rgA (headr (upd c 1 (orB 2 (c 1))))) 80 ∧ Trn p w w' := by
  have hp := hB.lt
  have HM := Lib.hid hM
  have HF := Lib.hid hF
  have HXO := Lib.hid hM.ok
  have hTk := Lib.hid (fun (w : World) (h : Blk w p (rgA c) 80) (h2 : Buf w (.slice fa fn fm) fs) => takes_c h hc.rg hc.r0.2 h2)
  rw [ht] at hTk
  have hOw := Lib.hid (fun (w : World) (h : Buf w (.slice a n m) xs) => ownRam_c hl h)
  have hWt := Lib.hid (fun (w : World) (h : Blk w p (rgA c) 80) => waits_r h hc.r0.1 hc.r0.2)
  rw [hw] at hWt
  have hok : AreBytes (bytesV xs (c 7 + 16 * c 9) 16) := bytesV_ok hM.ok _ _
  have h16 := bytesV_16 hin
  have hNx := Lib.hid (fun (w : World) (h : Blk w p (rgA c) 80) (h2 : Buf w (.slice a n m) xs) => next_r_yes h h2 hl hc.r7.1 hc.r7.2 hc.r9.1 (by have := hc.r8; have := hc.r9; omega) hin)
  rw [hds] at hok h16 hNx
  have H16 := Lib.hid h16
  have hOn := Lib.hid (owned_c hok h16)
  unfold ownB at hown
  rw [hown] at hOn
  have hpl := parts_lt hok h16
  have hAd := Lib.hid (address_c hok h16)
  have hLn := Lib.hid (length_c hok h16)
  change Hid (∀ w, Calls _ _ _ w fun e w' => e = .returned (.int .u64 (adrV ds)) ∧ Grew w w') at hAd
  change Hid (∀ w, Calls _ _ _ w fun e w' => e = .returned (.int .i64 (lenV ds)) ∧ Grew w w') at hLn
  obtain ⟨hfn, hfm⟩ := hF.lenEq
  obtain ⟨hnx, hnm⟩ := hM.lenEq
  have hfl := hF.len
  have hnl := hM.len
  rw [← hfn] at hfl
  rw [← hnx] at hnl
  unfold maxLen at hfl
  have hIn := Lib.hid (fun (w : World) => inside_c a n m (adrV ds) fn hnl hpl.1.1 hpl.1.2 (by omega) (by omega) w)
  rw [hnx, hfn, hi, ← hnx, ← hfn] at hIn
  rw [← hfn] at hlt
  replace hlt := decide_eq_false hlt
  have hor := or_u32_2 hc.r1.1 hc.r1.2
  have hwf : IntKind.u64.wrap (fn : Int) = (fn : Int) := IntWalk.u64_in _ (by omega)
  have hw8 : IntKind.u64.wrap (c 7 + 16 * c 9 + 8) = c 7 + 16 * c 9 + 8 := IntWalk.u64_in _ (by have := hc.r7; have := hc.r8; have := hc.r9; omega)
  have hPl := Lib.hid (fun (w : World) (h : Blk w p (rgA c) 80) => place_r h hc.r7.1 hc.r7.2 hc.r9.1 (by have := hc.r8; have := hc.r9; omega))
  have hWr := Lib.hid (fun (w : World) (h : Buf w (.slice a n m) xs) => write_c (c 7 + 16 * c 9 + 8) 2 (fn : Int) (by have := hc.r7; have := hc.r8; have := hc.r9; omega) (by have := hc.r7; have := hc.r8; have := hc.r9; omega) (by omega) (by omega) w h hl)
  rw [← hnx] at hWr
  have hok1 := Lib.hid (writeV_ok (c 7 + 16 * c 9 + 8) 2 (fn : Int) hM.ok)
  have hy1 := writeV_length xs (c 7 + 16 * c 9 + 8) 2 (fn : Int)
  rw [hfn] at hok1 hWr hy1
  generalize writeV xs (c 7 + 16 * c 9 + 8) 2 (fs.length : Int) = ys at *
  rw [← hfn] at hWr
  have hys : Hid (ys.length = n) := Lib.hid (by rw [hy1, hnx])
  have hFi := Lib.hid (fun (w : World) (v : Value) (h : Buf w v ys) (h2 : Buf w (.slice fa fn fm) fs) => fill_c (adrV ds) hpl.1.1 hpl.1.2 w h h2 (by omega))
  have hok2 := Lib.hid (fillV_ok (adrV ds) hok1.out hF.ok)
  have hy2 := fillV_length ys (adrV ds) fs
  generalize fillV ys (adrV ds) fs = zs at *
  have hbo := bothV_lt hok h16 1 (by decide) (by decide)
  have hDn := Lib.hid (fun (w : World) (a : Option Addr) (n m : Nat) (h : Blk w p (rgA (upd c 1 (orB 2 (c 1)))) 80) (h2 : Buf w (.slice a n m) zs) => done_r 1 (by decide) (by decide) h h2 (by omega) hok h16 (ROk.cause hc (.inr (.inl rfl))).r7.1 (ROk.cause hc (.inr (.inl rfl))).r7.2 (ROk.cause hc (.inr (.inl rfl))).r9.1 (by have := (ROk.cause hc (.inr (.inl rfl))).r8; have := (ROk.cause hc (.inr (.inl rfl))).r9; omega) (ROk.cause hc (.inr (.inl rfl))).r8.1 (ROk.cause hc (.inr (.inl rfl))).r8.2 hbo.1 hbo.2)
  rw [show (upd c 1 (orB 2 (c 1))) 7 = c 7 from rfl, show (upd c 1 (orB 2 (c 1))) 9 = c 9 from rfl] at hDn
  clear hM hl hc hw hin hok h16 hown hpl hbo hds ht hF hfm hnm hfl hnl hi hy1 hy2
  have HFN := Lib.hid hfn
  have HNX := Lib.hid hnx
  clear hfn hnx
  go_enter Try.func47, Try.ntmps47
  go_upto_region 1 with fail
  have kM : Blk ((w.alloc (.cells #[.slice a n m] 27)).alloc (.cells #[.slice none 0 0] 27)) w.heap.size #[.slice a n m] 27 := (Blk.new w #[.slice a n m] 27 _ rfl).alloc (.cells #[.slice none 0 0] 27)
  have kR : Blk ((w.alloc (.cells #[.slice a n m] 27)).alloc (.cells #[.slice none 0 0] 27)) (w.heap.size + 1) #[.slice none 0 0] 27 := Blk.new (w.alloc (.cells #[.slice a n m] 27)) #[.slice none 0 0] 27 _ (by simp)
  have g0 : Grew w ((w.alloc (.cells #[.slice a n m] 27)).alloc (.cells #[.slice none 0 0] 27)) := ((Grew.refl w).alloc (.cells #[.slice a n m] 27)).alloc (.cells #[.slice none 0 0] 27)
  replace hB := ((hB).alloc (.cells #[.slice a n m] 27)).alloc (.cells #[.slice none 0 0] 27)
  generalize ((w.alloc (.cells #[.slice a n m] 27)).alloc (.cells #[.slice none 0 0] 27)) = w0 at *
  have lM : w.heap.size ≤ w.heap.size := by omega
  have lR : w.heap.size ≤ (w.heap.size + 1) := by omega
  have nMR : w.heap.size ≠ (w.heap.size + 1) := by omega
  have nRM : (w.heap.size + 1) ≠ w.heap.size := by omega
  generalize (w.heap.size + 1) = R at *
  generalize hZ : w.heap.size = M at *
  have HZ := Lib.hid hZ
  clear hZ
  have LM : Hid (w.heap.size ≤ M) := Lib.hid (by rw [HZ.out]; exact lM)
  have LR : Hid (w.heap.size ≤ R) := Lib.hid (by rw [HZ.out]; exact lR)
  have hpM : p < M := hp
  go_wp2_with fail
  refine (receiving_c _).mono ?_
  rintro e w1 ⟨rfl, g1⟩
  have kM1 := kM.grew g1
  have kR1 := kR.grew g1
  have hB1 := hB.grew g1
  have g01 := g0.trans g1
  have lM1 := kM1.lt
  have lR1 := kR1.lt
  go_upto_region 2 with (first | (refine al_ri rfl rfl ?_; intro wa kA gA) | (refine st_ri rfl (.tmp 8) (.tmp 11) rfl rfl rgVr rfl rgVr_one kA rfl (by rfl) (by rfl) ?_; intro w2 kG o2))
  have g12 : Grew w1 w2 := o2.grew gA (Nat.le_refl _)
  have kM2 := kM1.grew g12
  have kR2 := kR1.grew g12
  have hB2 := hB1.grew g12
  have g02 : Grew w w2 := g01.trans g12
  have lG : M < w1.heap.size ∧ R < w1.heap.size := ⟨lM1, lR1⟩
  clear kM kR hB g0 g1 kM1 kR1 hB1 g01 lM1 lR1 o2 kA gA g12
  generalize w1.heap.size = G at *
  go_wp2_with fail
  refine (hTk.out _ hB2 (HF.out.grew g02)).mono ?_
  rintro e wt ⟨rfl, gt⟩
  replace kM2 := kM2.grew gt
  replace kR2 := kR2.grew gt
  replace kG := kG.grew gt
  replace hB2 := hB2.grew gt
  replace g02 := g02.trans gt
  clear gt
  go_wp2_with (refine lw_ri (by rfl) (.tmp 8) rfl _ rfl rfl kG (by rfl) ?_)
  refine (hWt.out _ hB2).mono ?_
  rintro e w3 ⟨rfl, g3⟩
  have kM3 := kM2.grew g3
  have kR3 := kR2.grew g3
  have kG3 := kG.grew g3
  have hB3 := hB2.grew g3
  have g03 := g02.trans g3
  clear kM2 kR2 kG hB2 g02 g3
  have y0 := kM3.cell 0
  go_wp2_with (refine ld_ri rfl (.tmp 8) rfl _ rfl rfl kG3 (by rfl) ?_)
  refine (hNx.out _ hB3 (HM.out.grew g03)).mono ?_
  rintro e w4 ⟨rfl, hB4, t4⟩
  have lB3 := hB3.lt
  have lM3 := kM3.lt
  have lR3 := kR3.lt
  have kM4 := kM3.trn t4 (by omega)
  have kR4 := kR3.trn t4 (by omega)
  have kG4 := kG3.trn t4 (by omega)
  have HM4 := Lib.hid ((HM.out.grew g03).trn hB3 t4)
  have HF4 := Lib.hid ((HF.out.grew g03).trn hB3 t4)
  have T4 := (Trn.of_grew g03).trans t4
  have s4 := t4.size
  have lG3 := kG3.lt
  clear y0 kM3 kR3 kG3 hB3 t4 HM HF
  go_upto_region 6 with (first | (refine al_ds rfl rfl ?_; intro wa kA gA) | (refine st_ds rfl (.tmp 9) (.tmp 31) rfl rfl ds H16.out kA rfl (by rfl) (by rfl) ?_; intro w5 kD o5))
  have g45 : Grew w4 w5 := o5.grew gA (Nat.le_refl _)
  have kM5 := kM4.grew g45
  have kR5 := kR4.grew g45
  have kG5 := kG4.grew g45
  have hB5 := hB4.grew g45
  have HM5 := Lib.hid (HM4.out.grew g45)
  have HF5 := Lib.hid (HF4.out.grew g45)
  have T5 := T4.trans (Trn.of_grew g45)
  have nD : M < w4.heap.size ∧ R < w4.heap.size ∧ G < w4.heap.size ∧ p < w4.heap.size := ⟨by omega, by omega, by omega, by omega⟩
  clear kM4 kR4 kG4 hB4 HM4 HF4 T4 g45 o5 g03 kA gA
  generalize w4.heap.size = D at *
  go_wp2_with (refine lw_ds (by rfl) (.tmp 9) rfl _ rfl H16.out kD (by rfl) ?_)
  refine (hOn.out _).mono ?_
  rintro e w6 ⟨rfl, g6⟩
  have kM6 := kM5.grew g6
  have kR6 := kR5.grew g6
  have kG6 := kG5.grew g6
  have kD6 := kD.grew g6
  have hB6 := hB5.grew g6
  have HM6 := Lib.hid (HM5.out.grew g6)
  have HF6 := Lib.hid (HF5.out.grew g6)
  have T6 := T5.trans (Trn.of_grew g6)
  clear kM5 kR5 kG5 kD hB5 HM5 HF5 T5 g6
  go_upto_region 9 with fail
  refine wp_region_held_drew (S := fun w' => Grew w6 w') (by kernel_rfl) ((Grew.refl w6).drew1) (fun hHeld => ?_)
  replace hHeld : Grew w6 w6.drew := hHeld
  generalize w6.drew = wq0 at *
  refine wpAnyH_take (i := 0) (v := (.agg (dsA ds))) rfl (by kernel_rfl) (by kernel_rfl) (by kernel_rfl) (fun _ _ _ h => h) (yl_ds H16.out rfl (by rfl) (by rfl) fun _ h => kD6.grew h) hHeld ?_
  try simp only [List.getElem_toArray, List.getElem_cons_succ, List.getElem_cons_zero, Act.put, List.setIfInBounds_toArray, List.set_cons_zero, List.set_cons_succ]
  refine wpAnyH_take (i := 2) (v := ?_) rfl (by kernel_rfl) (by kernel_rfl) (by kernel_rfl) (fun _ _ _ h => h) (Or.inl ⟨by rfl, ?_⟩) hHeld ?_
  rotate_left
  · intro wq hSw
    replace hSw : Grew w6 wq := hSw
    go_simp
    try with_reducible rfl
  try simp only [List.getElem_toArray, List.getElem_cons_succ, List.getElem_cons_zero, Act.put, List.setIfInBounds_toArray, List.set_cons_zero, List.set_cons_succ]
  refine wpAnyH_take (i := 3) (v := ?_) rfl (by kernel_rfl) (by kernel_rfl) (by kernel_rfl) (fun _ _ _ h => h) (Or.inl ⟨by rfl, ?_⟩) hHeld ?_
  rotate_left
  · intro wq hSw
    replace hSw : Grew w6 wq := hSw
    go_simp
    try with_reducible rfl
  try simp only [List.getElem_toArray, List.getElem_cons_succ, List.getElem_cons_zero, Act.put, List.setIfInBounds_toArray, List.set_cons_zero, List.set_cons_succ]
  refine wpAnyH_ready (rs := [1]) (by kernel_rfl) (by simp) ?_
  refine AllReadyH.cons rfl (fun K hK => ?_) AllReadyH.nil
  go_simp
  refine Calls.mono (hLn.out _) ?_
  rintro e w7 ⟨rfl, g7⟩
  refine hK.out _ _ (hHeld.trans g7) (fun hHeld => ?_)
  clear hK K
  try simp only [List.getElem_toArray, List.getElem_cons_succ, List.getElem_cons_zero, Act.put, List.setIfInBounds_toArray, List.set_cons_zero, List.set_cons_succ]
  refine wpAnyH_take (i := 4) (v := ?_) rfl (by kernel_rfl) (by kernel_rfl) (by kernel_rfl) (fun _ _ _ h => h) (Or.inl ⟨by rfl, ?_⟩) hHeld ?_
  rotate_left
  · intro wq hSw
    replace hSw : Grew w6 wq := hSw
    go_simp
    try with_reducible rfl
  try simp only [List.getElem_toArray, List.getElem_cons_succ, List.getElem_cons_zero, Act.put, List.setIfInBounds_toArray, List.set_cons_zero, List.set_cons_succ]
  refine wpAnyH_take (i := 5) (v := ?_) rfl (by kernel_rfl) (by kernel_rfl) (by kernel_rfl) (fun _ _ _ h => h) (Or.inl ⟨by rfl, ?_⟩) hHeld ?_
  rotate_left
  · intro wq hSw
    replace hSw : Grew w6 wq := hSw
    go_simp
    try with_reducible rfl
  try simp only [List.getElem_toArray, List.getElem_cons_succ, List.getElem_cons_zero, Act.put, List.setIfInBounds_toArray, List.set_cons_zero, List.set_cons_succ]
  refine wpAnyH_take (i := 6) (v := ?_) rfl (by kernel_rfl) (by kernel_rfl) (by kernel_rfl) (fun _ _ _ h => h) (Or.inl ⟨by rfl, ?_⟩) hHeld ?_
  rotate_left
  · intro wq hSw
    replace hSw : Grew w6 wq := hSw
    have y0 := (kM6.grew hSw).cell 0
    go_simp
    try with_reducible rfl
  try simp only [List.getElem_toArray, List.getElem_cons_succ, List.getElem_cons_zero, Act.put, List.setIfInBounds_toArray, List.set_cons_zero, List.set_cons_succ]
  refine wpAnyH_take (i := 7) (v := (.agg (dsA ds))) rfl (by kernel_rfl) (by kernel_rfl) (by kernel_rfl) (fun _ _ _ h => h) (yl_ds H16.out rfl (by rfl) (by rfl) fun _ h => kD6.grew h) hHeld ?_
  try simp only [List.getElem_toArray, List.getElem_cons_succ, List.getElem_cons_zero, Act.put, List.setIfInBounds_toArray, List.set_cons_zero, List.set_cons_succ]
  refine wpAnyH_take (i := 9) (v := ?_) rfl (by kernel_rfl) (by kernel_rfl) (by kernel_rfl) (fun _ _ _ h => h) (Or.inl ⟨by rfl, ?_⟩) hHeld ?_
  rotate_left
  · intro wq hSw
    replace hSw : Grew w6 wq := hSw
    go_simp
    try with_reducible rfl
  try simp only [List.getElem_toArray, List.getElem_cons_succ, List.getElem_cons_zero, Act.put, List.setIfInBounds_toArray, List.set_cons_zero, List.set_cons_succ]
  refine wpAnyH_take (i := 10) (v := ?_) rfl (by kernel_rfl) (by kernel_rfl) (by kernel_rfl) (fun _ _ _ h => h) (Or.inl ⟨by rfl, ?_⟩) hHeld ?_
  rotate_left
  · intro wq hSw
    replace hSw : Grew w6 wq := hSw
    go_simp
    try with_reducible rfl
  try simp only [List.getElem_toArray, List.getElem_cons_succ, List.getElem_cons_zero, Act.put, List.setIfInBounds_toArray, List.set_cons_zero, List.set_cons_succ]
  refine wpAnyH_ready (rs := [8]) (by kernel_rfl) (by simp) ?_
  refine AllReadyH.cons rfl (fun K hK => ?_) AllReadyH.nil
  go_simp
  refine Calls.mono (hAd.out _) ?_
  rintro e w7 ⟨rfl, g7⟩
  refine hK.out _ _ (hHeld.trans g7) (fun hHeld => ?_)
  clear hK K
  try simp only [List.getElem_toArray, List.getElem_cons_succ, List.getElem_cons_zero, Act.put, List.setIfInBounds_toArray, List.set_cons_zero, List.set_cons_succ]
  refine wpAnyH_ready (rs := [11]) (by kernel_rfl) (by simp) ?_
  refine AllReadyH.cons rfl (fun K hK => ?_) AllReadyH.nil
  go_simp
  refine Calls.mono (hIn.out _) ?_
  rintro e w7 ⟨rfl, g7⟩
  refine hK.out _ _ (hHeld.trans g7) (fun hHeld => ?_)
  clear hK K
  try simp only [List.getElem_toArray, List.getElem_cons_succ, List.getElem_cons_zero, Act.put, List.setIfInBounds_toArray, List.set_cons_zero, List.set_cons_succ]
  refine wpAnyH_take (i := 12) (v := ?_) rfl (by kernel_rfl) (by kernel_rfl) (by kernel_rfl) (fun _ _ _ h => h) (Or.inl ⟨by rfl, ?_⟩) hHeld ?_
  rotate_left
  · intro wq hSw
    replace hSw : Grew w6 wq := hSw
    go_simp
    try with_reducible rfl
  try simp only [List.getElem_toArray, List.getElem_cons_succ, List.getElem_cons_zero, Act.put, List.setIfInBounds_toArray, List.set_cons_zero, List.set_cons_succ]
  refine wpAnyH_take (i := 13) (v := ?_) rfl (by kernel_rfl) (by kernel_rfl) (by kernel_rfl) (fun _ _ _ h => h) (Or.inl ⟨by rfl, ?_⟩) hHeld ?_
  rotate_left
  · intro wq hSw
    replace hSw : Grew w6 wq := hSw
    go_simp
    try with_reducible rfl
  try simp only [List.getElem_toArray, List.getElem_cons_succ, List.getElem_cons_zero, Act.put, List.setIfInBounds_toArray, List.set_cons_zero, List.set_cons_succ]
  refine wpAnyH_done (by kernel_rfl) ?_ _
  try simp only [List.getElem_toArray, List.getElem_cons_succ, List.getElem_cons_zero, Act.put, List.setIfInBounds_toArray, List.set_cons_zero, List.set_cons_succ]
  have kM9 := kM6.grew hHeld
  have kR9 := kR6.grew hHeld
  have kG9 := kG6.grew hHeld
  have kD9 := kD6.grew hHeld
  have hB9 := hB6.grew hHeld
  have HM9 := Lib.hid (HM6.out.grew hHeld)
  have HF9 := Lib.hid (HF6.out.grew hHeld)
  have T9 := T6.trans (Trn.of_grew hHeld)
  clear kM6 kR6 kG6 kD6 hB6 HM6 HF6 T6 hHeld
  generalize w7 = w9 at *
  go_upto_region 13 with fail
  have kMc := kM9.drew
  have kRc := kR9.drew
  have kGc := kG9.drew
  have kDc := kD9.drew
  have hBc := hB9.drew
  have HMc := Lib.hid HM9.out.drew
  have HFc := Lib.hid HF9.out.drew
  have Tc := T9.trans (Trn.of_grew (Grew.refl w9).drew1)
  have gdr := (Grew.refl w9).drew1
  clear kM9 kR9 kG9 kD9 hB9 HM9 HF9 T9
  have kGh := kGc
  refine wp_region_held_drew (S := fun w' => Blk w' G rgVr 82) (by kernel_rfl) (kGh) (fun hHeld => ?_)
  replace hHeld : Blk w9.drew G rgVr 82 := hHeld
  generalize w9.drew = wq0 at *
  refine wpAnyH_take (i := 1) (v := ?_) rfl (by kernel_rfl) (by kernel_rfl) (by kernel_rfl) (fun _ _ _ h => h) (Or.inl ⟨by rfl, ?_⟩) hHeld ?_
  rotate_left
  · intro wq hSw
    replace hSw : Blk wq G rgVr 82 := hSw
    go_simp
    try with_reducible rfl
  try simp only [List.getElem_toArray, List.getElem_cons_succ, List.getElem_cons_zero, Act.put, List.setIfInBounds_toArray, List.set_cons_zero, List.set_cons_succ]
  refine wpAnyH_take (i := 2) (v := (.agg rgVr)) rfl (by kernel_rfl) (by kernel_rfl) (by kernel_rfl) (fun _ _ _ h => h) (yl_ri rfl rfl (by rfl) (by rfl) fun _ h => h) hHeld ?_
  try simp only [List.getElem_toArray, List.getElem_cons_succ, List.getElem_cons_zero, Act.put, List.setIfInBounds_toArray, List.set_cons_zero, List.set_cons_succ]
  refine wpAnyH_take (i := 5) (v := ?_) rfl (by kernel_rfl) (by kernel_rfl) (by kernel_rfl) (fun _ _ _ h => h) (Or.inl ⟨by rfl, ?_⟩) hHeld ?_
  rotate_left
  · intro wq hSw
    replace hSw : Blk wq G rgVr 82 := hSw
    go_simp
    try with_reducible rfl
  try simp only [List.getElem_toArray, List.getElem_cons_succ, List.getElem_cons_zero, Act.put, List.setIfInBounds_toArray, List.set_cons_zero, List.set_cons_succ]
  refine wpAnyH_take (i := 6) (v := ?_) rfl (by kernel_rfl) (by kernel_rfl) (by kernel_rfl) (fun _ _ _ h => h) (Or.inl ⟨by rfl, ?_⟩) hHeld ?_
  rotate_left
  · intro wq hSw
    replace hSw : Blk wq G rgVr 82 := hSw
    go_simp
    try with_reducible rfl
  try simp only [List.getElem_toArray, List.getElem_cons_succ, List.getElem_cons_zero, Act.put, List.setIfInBounds_toArray, List.set_cons_zero, List.set_cons_succ]
  refine wpAnyH_take (i := 7) (v := ?_) rfl (by kernel_rfl) (by kernel_rfl) (by kernel_rfl) (fun _ _ _ h => h) (Or.inl ⟨by rfl, ?_⟩) hHeld ?_
  rotate_left
  · intro wq hSw
    replace hSw : Blk wq G rgVr 82 := hSw
    go_simp
    try with_reducible rfl
  try simp only [List.getElem_toArray, List.getElem_cons_succ, List.getElem_cons_zero, Act.put, List.setIfInBounds_toArray, List.set_cons_zero, List.set_cons_succ]
  refine wpAnyH_ready (rs := [0, 3]) (by kernel_rfl) (by simp) ?_
  refine AllReadyH.cons rfl (fun K hK => ?_) (AllReadyH.cons rfl (fun K hK => ?_) AllReadyH.nil)
  · have y0 := kMc.cell 0
    go_simp
    refine hK.out _ _ (hHeld) (fun hHeld => ?_)
    clear hK K
    clear y0
    try simp only [List.getElem_toArray, List.getElem_cons_succ, List.getElem_cons_zero, Act.put, List.setIfInBounds_toArray, List.set_cons_zero, List.set_cons_succ]
    refine wpAnyH_ready (rs := [3]) (by kernel_rfl) (by simp) ?_
    refine AllReadyH.cons rfl (fun K hK => ?_) AllReadyH.nil
    go_simp
    refine Calls.mono (hPl.out _ hBc) ?_
    rintro e wa ⟨rfl, ga⟩
    refine hK.out _ _ (hHeld.grew ga) (fun hHeld => ?_)
    clear hK K
    replace kMc := kMc.grew ga
    replace kRc := kRc.grew ga
    replace kGc := kGc.grew ga
    replace kDc := kDc.grew ga
    replace hBc := hBc.grew ga
    replace HMc := Lib.hid (HMc.out.grew ga)
    replace HFc := Lib.hid (HFc.out.grew ga)
    replace Tc := Tc.trans (Trn.of_grew ga)
    clear ga
    try simp only [List.getElem_toArray, List.getElem_cons_succ, List.getElem_cons_zero, Act.put, List.setIfInBounds_toArray, List.set_cons_zero, List.set_cons_succ]
    refine wpAnyH_take (i := 4) (v := ?_) rfl (by kernel_rfl) (by kernel_rfl) (by kernel_rfl) (fun _ _ _ h => h) (Or.inl ⟨by rfl, ?_⟩) hHeld ?_
    rotate_left
    · intro wq hSw
      replace hSw : Blk wq G rgVr 82 := hSw
      go_simp
      try with_reducible rfl
    try simp only [List.getElem_toArray, List.getElem_cons_succ, List.getElem_cons_zero, Act.put, List.setIfInBounds_toArray, List.set_cons_zero, List.set_cons_succ]
    refine wpAnyH_ready (rs := [8]) (by kernel_rfl) (by simp) ?_
    refine AllReadyH.cons rfl (fun K hK => ?_) AllReadyH.nil
    go_simp
    refine Calls.mono (hWr.out _ HMc.out) ?_
    rintro e wb ⟨g1, rfl, hr, gb⟩
    have HY := Lib.hid (hr.buf hok1.out)
    clear hr
    refine hK.out _ _ (hHeld.grew gb) (fun hHeld => ?_)
    clear hK K
    replace kMc := kMc.grew gb
    replace kRc := kRc.grew gb
    replace kGc := kGc.grew gb
    replace kDc := kDc.grew gb
    replace hBc := hBc.grew gb
    replace HMc := Lib.hid (HMc.out.grew gb)
    replace HFc := Lib.hid (HFc.out.grew gb)
    replace Tc := Tc.trans (Trn.of_grew gb)
    clear gb
    try simp only [List.getElem_toArray, List.getElem_cons_succ, List.getElem_cons_zero, Act.put, List.setIfInBounds_toArray, List.set_cons_zero, List.set_cons_succ]
    refine wpAnyH_take (i := 9) (v := ?_) rfl (by kernel_rfl) (by kernel_rfl) (by kernel_rfl) (fun _ _ _ h => h) (Or.inl ⟨by rfl, ?_⟩) hHeld ?_
    rotate_left
    · intro wq hSw
      replace hSw : Blk wq G rgVr 82 := hSw
      go_simp
      try with_reducible rfl
    try simp only [List.getElem_toArray, List.getElem_cons_succ, List.getElem_cons_zero, Act.put, List.setIfInBounds_toArray, List.set_cons_zero, List.set_cons_succ]
    refine wpAnyH_take (i := 10) (v := ?_) rfl (by kernel_rfl) (by kernel_rfl) (by kernel_rfl) (fun _ _ _ h => h) (Or.inl ⟨by rfl, ?_⟩) hHeld ?_
    rotate_left
    · intro wq hSw
      replace hSw : Blk wq G rgVr 82 := hSw
      go_simp
      try with_reducible rfl
    try simp only [List.getElem_toArray, List.getElem_cons_succ, List.getElem_cons_zero, Act.put, List.setIfInBounds_toArray, List.set_cons_zero, List.set_cons_succ]
    refine wpAnyH_take (i := 11) (v := ?_) rfl (by kernel_rfl) (by kernel_rfl) (by kernel_rfl) (fun _ _ _ h => h) (Or.inl ⟨by rfl, ?_⟩) hHeld ?_
    rotate_left
    · intro wq hSw
      replace hSw : Blk wq G rgVr 82 := hSw
      go_simp
      try with_reducible rfl
    try simp only [List.getElem_toArray, List.getElem_cons_succ, List.getElem_cons_zero, Act.put, List.setIfInBounds_toArray, List.set_cons_zero, List.set_cons_succ]
    refine wpAnyH_ready (rs := [12]) (by kernel_rfl) (by simp) ?_
    refine AllReadyH.cons rfl (fun K hK => ?_) AllReadyH.nil
    have z0 := kMc.cell 0
    have f0 := kMc.free 0
    go_simp
    have kMd := kMc.set (o := 0) (.slice (some ⟨g1, 0, none⟩) n n)
    have HMd := Lib.hid (HY.out.store kMc (.slice (some ⟨g1, 0, none⟩) n n))
    have HFd := Lib.hid (HFc.out.store kMc (.slice (some ⟨g1, 0, none⟩) n n))
    have kRd := kRc.other (c := M) (o := 0) nRM (.slice (some ⟨g1, 0, none⟩) n n)
    have kGd := kGc.other (c := M) (o := 0) (by omega) (.slice (some ⟨g1, 0, none⟩) n n)
    have kDd := kDc.other (c := M) (o := 0) (by omega) (.slice (some ⟨g1, 0, none⟩) n n)
    have hBd := hBc.other (c := M) (o := 0) (by omega) (.slice (some ⟨g1, 0, none⟩) n n)
    have Td := Tc.only (Only.set wb M 0 (.slice (some ⟨g1, 0, none⟩) n n)) LM.out
    refine hK.out _ _ (hHeld.other (by omega) _) (fun hHeld => ?_)
    clear hK K
    clear z0 f0 kMc HMc HFc kRc kGc kDc hBc Tc HY
    generalize (wb.setCell ⟨M, 0, none⟩ (.slice (some ⟨g1, 0, none⟩) n n)) = ws at *
    replace kMd : Blk ws M #[.slice (some ⟨g1, 0, none⟩) n n] 27 := kMd
    try simp only [List.getElem_toArray, List.getElem_cons_succ, List.getElem_cons_zero, Act.put, List.setIfInBounds_toArray, List.set_cons_zero, List.set_cons_succ]
    refine wpAnyH_done (by kernel_rfl) ?_ _
    try simp only [List.getElem_toArray, List.getElem_cons_succ, List.getElem_cons_zero, Act.put, List.setIfInBounds_toArray, List.set_cons_zero, List.set_cons_succ]
    clear hHeld
    go_upto_region 14 with fail
    have kMc := kMd.drew
    have kRc := kRd.drew
    have kGc := kGd.drew
    have kDc := kDd.drew
    have hBc := hBd.drew
    have HMc := Lib.hid HMd.out.drew
    have HFc := Lib.hid HFd.out.drew
    have Tc := Td.trans (Trn.of_grew (Grew.refl ws).drew1)
    have gdr := (Grew.refl ws).drew1
    clear kMd kRd kGd kDd hBd HMd HFd Td
    have kDh := kDc
    refine wp_region_held_drew (S := fun w' => Blk w' D (dsA ds) 86) (by kernel_rfl) (kDh) (fun hHeld => ?_)
    replace hHeld : Blk ws.drew D (dsA ds) 86 := hHeld
    generalize ws.drew = wq1 at *
    refine wpAnyH_take (i := 1) (v := (.agg (dsA ds))) rfl (by kernel_rfl) (by kernel_rfl) (by kernel_rfl) (fun _ _ _ h => h) (yl_ds H16.out rfl (by rfl) (by rfl) fun _ h => h) hHeld ?_
    try simp only [List.getElem_toArray, List.getElem_cons_succ, List.getElem_cons_zero, Act.put, List.setIfInBounds_toArray, List.set_cons_zero, List.set_cons_succ]
    refine wpAnyH_take (i := 3) (v := ?_) rfl (by kernel_rfl) (by kernel_rfl) (by kernel_rfl) (fun _ _ _ h => h) (Or.inl ⟨by rfl, ?_⟩) hHeld ?_
    rotate_left
    · intro wq hSw
      replace hSw : Blk wq D (dsA ds) 86 := hSw
      go_simp
      try with_reducible rfl
    try simp only [List.getElem_toArray, List.getElem_cons_succ, List.getElem_cons_zero, Act.put, List.setIfInBounds_toArray, List.set_cons_zero, List.set_cons_succ]
    refine wpAnyH_ready (rs := [0, 2]) (by kernel_rfl) (by simp) ?_
    refine AllReadyH.cons rfl (fun K hK => ?_) (AllReadyH.cons rfl (fun K hK => ?_) AllReadyH.nil)
    · have y0 := kMc.cell 0
      go_simp
      refine hK.out _ _ (hHeld) (fun hHeld => ?_)
      clear hK K
      clear y0
      try simp only [List.getElem_toArray, List.getElem_cons_succ, List.getElem_cons_zero, Act.put, List.setIfInBounds_toArray, List.set_cons_zero, List.set_cons_succ]
      refine wpAnyH_ready (rs := [2]) (by kernel_rfl) (by simp) ?_
      refine AllReadyH.cons rfl (fun K hK => ?_) AllReadyH.nil
      go_simp
      refine Calls.mono (hAd.out _) ?_
      rintro e we ⟨rfl, ga⟩
      refine hK.out _ _ (hHeld.grew ga) (fun hHeld => ?_)
      clear hK K
      replace kMc := kMc.grew ga
      replace kRc := kRc.grew ga
      replace kGc := kGc.grew ga
      replace kDc := kDc.grew ga
      replace hBc := hBc.grew ga
      replace HMc := Lib.hid (HMc.out.grew ga)
      replace HFc := Lib.hid (HFc.out.grew ga)
      replace Tc := Tc.trans (Trn.of_grew ga)
      clear ga
      try simp only [List.getElem_toArray, List.getElem_cons_succ, List.getElem_cons_zero, Act.put, List.setIfInBounds_toArray, List.set_cons_zero, List.set_cons_succ]
      refine wpAnyH_ready (rs := [4]) (by kernel_rfl) (by simp) ?_
      refine AllReadyH.cons rfl (fun K hK => ?_) AllReadyH.nil
      go_simp
      refine Calls.mono (hFi.out _ _ HMc.out HFc.out) ?_
      rintro e wf ⟨g2, rfl, hr, gb⟩
      rw [hys.out] at hr ⊢
      have HY := Lib.hid (hr.buf hok2.out)
      clear hr
      refine hK.out _ _ (hHeld.grew gb) (fun hHeld => ?_)
      clear hK K
      replace kMc := kMc.grew gb
      replace kRc := kRc.grew gb
      replace kGc := kGc.grew gb
      replace kDc := kDc.grew gb
      replace hBc := hBc.grew gb
      replace HMc := Lib.hid (HMc.out.grew gb)
      replace HFc := Lib.hid (HFc.out.grew gb)
      replace Tc := Tc.trans (Trn.of_grew gb)
      clear gb
      try simp only [List.getElem_toArray, List.getElem_cons_succ, List.getElem_cons_zero, Act.put, List.setIfInBounds_toArray, List.set_cons_zero, List.set_cons_succ]
      refine wpAnyH_take (i := 5) (v := ?_) rfl (by kernel_rfl) (by kernel_rfl) (by kernel_rfl) (fun _ _ _ h => h) (Or.inl ⟨by rfl, ?_⟩) hHeld ?_
      rotate_left
      · intro wq hSw
        replace hSw : Blk wq D (dsA ds) 86 := hSw
        go_simp
        try with_reducible rfl
      try simp only [List.getElem_toArray, List.getElem_cons_succ, List.getElem_cons_zero, Act.put, List.setIfInBounds_toArray, List.set_cons_zero, List.set_cons_succ]
      refine wpAnyH_take (i := 6) (v := ?_) rfl (by kernel_rfl) (by kernel_rfl) (by kernel_rfl) (fun _ _ _ h => h) (Or.inl ⟨by rfl, ?_⟩) hHeld ?_
      rotate_left
      · intro wq hSw
        replace hSw : Blk wq D (dsA ds) 86 := hSw
        go_simp
        try with_reducible rfl
      try simp only [List.getElem_toArray, List.getElem_cons_succ, List.getElem_cons_zero, Act.put, List.setIfInBounds_toArray, List.set_cons_zero, List.set_cons_succ]
      refine wpAnyH_take (i := 7) (v := ?_) rfl (by kernel_rfl) (by kernel_rfl) (by kernel_rfl) (fun _ _ _ h => h) (Or.inl ⟨by rfl, ?_⟩) hHeld ?_
      rotate_left
      · intro wq hSw
        replace hSw : Blk wq D (dsA ds) 86 := hSw
        go_simp
        try with_reducible rfl
      try simp only [List.getElem_toArray, List.getElem_cons_succ, List.getElem_cons_zero, Act.put, List.setIfInBounds_toArray, List.set_cons_zero, List.set_cons_succ]
      refine wpAnyH_ready (rs := [8]) (by kernel_rfl) (by simp) ?_
      refine AllReadyH.cons rfl (fun K hK => ?_) AllReadyH.nil
      have z0 := kMc.cell 0
      have f0 := kMc.free 0
      go_simp
      have kMd := kMc.set (o := 0) (.slice (some ⟨g2, 0, none⟩) n n)
      have HMd := Lib.hid (HY.out.store kMc (.slice (some ⟨g2, 0, none⟩) n n))
      have HFd := Lib.hid (HFc.out.store kMc (.slice (some ⟨g2, 0, none⟩) n n))
      have kRd := kRc.other (c := M) (o := 0) nRM (.slice (some ⟨g2, 0, none⟩) n n)
      have kGd := kGc.other (c := M) (o := 0) (by omega) (.slice (some ⟨g2, 0, none⟩) n n)
      have kDd := kDc.other (c := M) (o := 0) (by omega) (.slice (some ⟨g2, 0, none⟩) n n)
      have hBd := hBc.other (c := M) (o := 0) (by omega) (.slice (some ⟨g2, 0, none⟩) n n)
      have Td := Tc.only (Only.set wf M 0 (.slice (some ⟨g2, 0, none⟩) n n)) LM.out
      refine hK.out _ _ (hHeld.other (by omega) _) (fun hHeld => ?_)
      clear hK K
      clear z0 f0 kMc HMc HFc kRc kGc kDc hBc Tc HY
      generalize (wf.setCell ⟨M, 0, none⟩ (.slice (some ⟨g2, 0, none⟩) n n)) = ws at *
      replace kMd : Blk ws M #[.slice (some ⟨g2, 0, none⟩) n n] 27 := kMd
      try simp only [List.getElem_toArray, List.getElem_cons_succ, List.getElem_cons_zero, Act.put, List.setIfInBounds_toArray, List.set_cons_zero, List.set_cons_succ]
      refine wpAnyH_done (by kernel_rfl) ?_ _
      try simp only [List.getElem_toArray, List.getElem_cons_succ, List.getElem_cons_zero, Act.put, List.setIfInBounds_toArray, List.set_cons_zero, List.set_cons_succ]
      clear hHeld
      generalize ws = w9 at *
      go_upto_region 15 with fail
      have z0 := fun z : Over w9 => hBd.rgO 1 (by decide) z
      refine region_over_tail 7 (by kernel_rfl) (by kernel_rfl) ?_
      simp only [List.take_succ_cons, List.take_zero, List.drop_succ_cons, List.drop_zero]
      repeat (first | go_big_quiet_step (fail) | quiet_step (fail))
      refine wpQuiet_nil ?_
      intro z
      have gz := z.g
      have kM9 := kMd.grew gz
      have kR9 := kRd.grew gz
      have kG9 := kGd.grew gz
      have kD9 := kDd.grew gz
      have hB9 := hBd.grew gz
      have HM9 := Lib.hid (HMd.out.grew gz)
      have T9 := Td.trans (Trn.of_grew gz)
      clear z0 kMd kRd kGd kDd hBd HMd HFd Td gz
      generalize z.w = w8 at *
      have c0 := hB9.rgC 1 (by decide)
      have f0 := hB9.free 1
      have lp := hB9.lt
      have lM9 := kM9.lt
      go_upto_region 16 with fail
      have o3 := Only.set w8 p 1 (.int .u32 (orB 2 (c 1)))
      have hBv := hB9.rg (by decide : 1 < 15) (orB 2 (c 1))
      have kMv := kM9.only o3 (by omega)
      have kRv := kR9.only o3 (by omega)
      have kGv := kG9.only o3 (by omega)
      have kDv := kD9.only o3 (by omega)
      have HMv := Lib.hid (HM9.out.only o3 hB9 (nb_rg c))
      have Tv := T9.trans o3.trn
      clear c0 f0 hB9 kM9 kR9 kG9 kD9 HM9 T9 o3
      generalize (w8.setCell ⟨p, 1, none⟩ (.int .u32 (orB 2 (c 1)))) = wv at *
      have y0 := kMv.cell 0
      go_wp2_with (first | (refine ld_ri rfl (.tmp 8) rfl _ rfl rfl kGv (by rfl) ?_) | (refine ld_ds rfl (.tmp 9) rfl _ rfl H16.out kDv (by rfl) ?_))
      refine (hDn.out _ _ _ _ hBv HMv.out).mono ?_
      rintro e wd ⟨a1, n1, m1, rfl, HY, hBd, td⟩
      have kRd := kRv.trn td (by have := hBv.lt; omega)
      have z0 := kRd.cell 0
      have f0 := kRd.free 0
      clear y0
      go_wp2_with fail
      have hset := (kRd.set (o := 0) (.slice a1 n1 m1)).cell 0
      have HYz := Lib.hid (HY.out.store kRd (.slice a1 n1 m1))
      have tz : Trn p w _ := (Tv.trans td).only (Only.set wd R 0 (.slice a1 n1 m1)) LR.out
      have hBz := hBd.other (c := R) (o := 0) (by omega) (.slice a1 n1 m1)
      exact bodyPost_ret (v := .tuple #[.agg #[.slice a1 n1 m1], .bool true]) (by simp [results, Try.results47, go_sem, hset]) rfl ⟨_, _, _, rfl, HYz, hBz, tz⟩
    · go_simp
      refine Calls.mono (hAd.out _) ?_
      rintro e we ⟨rfl, ga⟩
      refine hK.out _ _ (hHeld.grew ga) (fun hHeld => ?_)
      clear hK K
      replace kMc := kMc.grew ga
      replace kRc := kRc.grew ga
      replace kGc := kGc.grew ga
      replace kDc := kDc.grew ga
      replace hBc := hBc.grew ga
      replace HMc := Lib.hid (HMc.out.grew ga)
      replace HFc := Lib.hid (HFc.out.grew ga)
      replace Tc := Tc.trans (Trn.of_grew ga)
      clear ga
      try simp only [List.getElem_toArray, List.getElem_cons_succ, List.getElem_cons_zero, Act.put, List.setIfInBounds_toArray, List.set_cons_zero, List.set_cons_succ]
      refine wpAnyH_ready (rs := [0]) (by kernel_rfl) (by simp) ?_
      refine AllReadyH.cons rfl (fun K hK => ?_) AllReadyH.nil
      have y0 := kMc.cell 0
      go_simp
      refine hK.out _ _ (hHeld) (fun hHeld => ?_)
      clear hK K
      clear y0
      try simp only [List.getElem_toArray, List.getElem_cons_succ, List.getElem_cons_zero, Act.put, List.setIfInBounds_toArray, List.set_cons_zero, List.set_cons_succ]
      refine wpAnyH_ready (rs := [4]) (by kernel_rfl) (by simp) ?_
      refine AllReadyH.cons rfl (fun K hK => ?_) AllReadyH.nil
      go_simp
      refine Calls.mono (hFi.out _ _ HMc.out HFc.out) ?_
      rintro e wf ⟨g2, rfl, hr, gb⟩
      rw [hys.out] at hr ⊢
      have HY := Lib.hid (hr.buf hok2.out)
      clear hr
      refine hK.out _ _ (hHeld.grew gb) (fun hHeld => ?_)
      clear hK K
      replace kMc := kMc.grew gb
      replace kRc := kRc.grew gb
      replace kGc := kGc.grew gb
      replace kDc := kDc.grew gb
      replace hBc := hBc.grew gb
      replace HMc := Lib.hid (HMc.out.grew gb)
      replace HFc := Lib.hid (HFc.out.grew gb)
      replace Tc := Tc.trans (Trn.of_grew gb)
      clear gb
      try simp only [List.getElem_toArray, List.getElem_cons_succ, List.getElem_cons_zero, Act.put, List.setIfInBounds_toArray, List.set_cons_zero, List.set_cons_succ]
      refine wpAnyH_take (i := 5) (v := ?_) rfl (by kernel_rfl) (by kernel_rfl) (by kernel_rfl) (fun _ _ _ h => h) (Or.inl ⟨by rfl, ?_⟩) hHeld ?_
      rotate_left
      · intro wq hSw
        replace hSw : Blk wq D (dsA ds) 86 := hSw
        go_simp
        try with_reducible rfl
      try simp only [List.getElem_toArray, List.getElem_cons_succ, List.getElem_cons_zero, Act.put, List.setIfInBounds_toArray, List.set_cons_zero, List.set_cons_succ]
      refine wpAnyH_take (i := 6) (v := ?_) rfl (by kernel_rfl) (by kernel_rfl) (by kernel_rfl) (fun _ _ _ h => h) (Or.inl ⟨by rfl, ?_⟩) hHeld ?_
      rotate_left
      · intro wq hSw
        replace hSw : Blk wq D (dsA ds) 86 := hSw
        go_simp
        try with_reducible rfl
      try simp only [List.getElem_toArray, List.getElem_cons_succ, List.getElem_cons_zero, Act.put, List.setIfInBounds_toArray, List.set_cons_zero, List.set_cons_succ]
      refine wpAnyH_take (i := 7) (v := ?_) rfl (by kernel_rfl) (by kernel_rfl) (by kernel_rfl) (fun _ _ _ h => h) (Or.inl ⟨by rfl, ?_⟩) hHeld ?_
      rotate_left
      · intro wq hSw
        replace hSw : Blk wq D (dsA ds) 86 := hSw
        go_simp
        try with_reducible rfl
      try simp only [List.getElem_toArray, List.getElem_cons_succ, List.getElem_cons_zero, Act.put, List.setIfInBounds_toArray, List.set_cons_zero, List.set_cons_succ]
      refine wpAnyH_ready (rs := [8]) (by kernel_rfl) (by simp) ?_
      refine AllReadyH.cons rfl (fun K hK => ?_) AllReadyH.nil
      have z0 := kMc.cell 0
      have f0 := kMc.free 0
      go_simp
      have kMd := kMc.set (o := 0) (.slice (some ⟨g2, 0, none⟩) n n)
      have HMd := Lib.hid (HY.out.store kMc (.slice (some ⟨g2, 0, none⟩) n n))
      have HFd := Lib.hid (HFc.out.store kMc (.slice (some ⟨g2, 0, none⟩) n n))
      have kRd := kRc.other (c := M) (o := 0) nRM (.slice (some ⟨g2, 0, none⟩) n n)
      have kGd := kGc.other (c := M) (o := 0) (by omega) (.slice (some ⟨g2, 0, none⟩) n n)
      have kDd := kDc.other (c := M) (o := 0) (by omega) (.slice (some ⟨g2, 0, none⟩) n n)
      have hBd := hBc.other (c := M) (o := 0) (by omega) (.slice (some ⟨g2, 0, none⟩) n n)
      have Td := Tc.only (Only.set wf M 0 (.slice (some ⟨g2, 0, none⟩) n n)) LM.out
      refine hK.out _ _ (hHeld.other (by omega) _) (fun hHeld => ?_)
      clear hK K
      clear z0 f0 kMc HMc HFc kRc kGc kDc hBc Tc HY
      generalize (wf.setCell ⟨M, 0, none⟩ (.slice (some ⟨g2, 0, none⟩) n n)) = ws at *
      replace kMd : Blk ws M #[.slice (some ⟨g2, 0, none⟩) n n] 27 := kMd
      try simp only [List.getElem_toArray, List.getElem_cons_succ, List.getElem_cons_zero, Act.put, List.setIfInBounds_toArray, List.set_cons_zero, List.set_cons_succ]
      refine wpAnyH_done (by kernel_rfl) ?_ _
      try simp only [List.getElem_toArray, List.getElem_cons_succ, List.getElem_cons_zero, Act.put, List.setIfInBounds_toArray, List.set_cons_zero, List.set_cons_succ]
      clear hHeld
      generalize ws = w9 at *
      go_upto_region 15 with fail
      have z0 := fun z : Over w9 => hBd.rgO 1 (by decide) z
      refine region_over_tail 7 (by kernel_rfl) (by kernel_rfl) ?_
      simp only [List.take_succ_cons, List.take_zero, List.drop_succ_cons, List.drop_zero]
      repeat (first | go_big_quiet_step (fail) | quiet_step (fail))
      refine wpQuiet_nil ?_
      intro z
      have gz := z.g
      have kM9 := kMd.grew gz
      have kR9 := kRd.grew gz
      have kG9 := kGd.grew gz
      have kD9 := kDd.grew gz
      have hB9 := hBd.grew gz
      have HM9 := Lib.hid (HMd.out.grew gz)
      have T9 := Td.trans (Trn.of_grew gz)
      clear z0 kMd kRd kGd kDd hBd HMd HFd Td gz
      generalize z.w = w8 at *
      have c0 := hB9.rgC 1 (by decide)
      have f0 := hB9.free 1
      have lp := hB9.lt
      have lM9 := kM9.lt
      go_upto_region 16 with fail
      have o3 := Only.set w8 p 1 (.int .u32 (orB 2 (c 1)))
      have hBv := hB9.rg (by decide : 1 < 15) (orB 2 (c 1))
      have kMv := kM9.only o3 (by omega)
      have kRv := kR9.only o3 (by omega)
      have kGv := kG9.only o3 (by omega)
      have kDv := kD9.only o3 (by omega)
      have HMv := Lib.hid (HM9.out.only o3 hB9 (nb_rg c))
      have Tv := T9.trans o3.trn
      clear c0 f0 hB9 kM9 kR9 kG9 kD9 HM9 T9 o3
      generalize (w8.setCell ⟨p, 1, none⟩ (.int .u32 (orB 2 (c 1)))) = wv at *
      have y0 := kMv.cell 0
      go_wp2_with (first | (refine ld_ri rfl (.tmp 8) rfl _ rfl rfl kGv (by rfl) ?_) | (refine ld_ds rfl (.tmp 9) rfl _ rfl H16.out kDv (by rfl) ?_))
      refine (hDn.out _ _ _ _ hBv HMv.out).mono ?_
      rintro e wd ⟨a1, n1, m1, rfl, HY, hBd, td⟩
      have kRd := kRv.trn td (by have := hBv.lt; omega)
      have z0 := kRd.cell 0
      have f0 := kRd.free 0
      clear y0
      go_wp2_with fail
      have hset := (kRd.set (o := 0) (.slice a1 n1 m1)).cell 0
      have HYz := Lib.hid (HY.out.store kRd (.slice a1 n1 m1))
      have tz : Trn p w _ := (Tv.trans td).only (Only.set wd R 0 (.slice a1 n1 m1)) LR.out
      have hBz := hBd.other (c := R) (o := 0) (by omega) (.slice a1 n1 m1)
      exact bodyPost_ret (v := .tuple #[.agg #[.slice a1 n1 m1], .bool true]) (by simp [results, Try.results47, go_sem, hset]) rfl ⟨_, _, _, rfl, HYz, hBz, tz⟩
  · go_simp
    refine Calls.mono (hPl.out _ hBc) ?_
    rintro e wa ⟨rfl, ga⟩
    refine hK.out _ _ (hHeld.grew ga) (fun hHeld => ?_)
    clear hK K
    replace kMc := kMc.grew ga
    replace kRc := kRc.grew ga
    replace kGc := kGc.grew ga
    replace kDc := kDc.grew ga
    replace hBc := hBc.grew ga
    replace HMc := Lib.hid (HMc.out.grew ga)
    replace HFc := Lib.hid (HFc.out.grew ga)
    replace Tc := Tc.trans (Trn.of_grew ga)
    clear ga
    try simp only [List.getElem_toArray, List.getElem_cons_succ, List.getElem_cons_zero, Act.put, List.setIfInBounds_toArray, List.set_cons_zero, List.set_cons_succ]
    refine wpAnyH_take (i := 4) (v := ?_) rfl (by kernel_rfl) (by kernel_rfl) (by kernel_rfl) (fun _ _ _ h => h) (Or.inl ⟨by rfl, ?_⟩) hHeld ?_
    rotate_left
    · intro wq hSw
      replace hSw : Blk wq G rgVr 82 := hSw
      go_simp
      try with_reducible rfl
    try simp only [List.getElem_toArray, List.getElem_cons_succ, List.getElem_cons_zero, Act.put, List.setIfInBounds_toArray, List.set_cons_zero, List.set_cons_succ]
    refine wpAnyH_ready (rs := [0]) (by kernel_rfl) (by simp) ?_
    refine AllReadyH.cons rfl (fun K hK => ?_) AllReadyH.nil
    have y0 := kMc.cell 0
    go_simp
    refine hK.out _ _ (hHeld) (fun hHeld => ?_)
    clear hK K
    clear y0
    try simp only [List.getElem_toArray, List.getElem_cons_succ, List.getElem_cons_zero, Act.put, List.setIfInBounds_toArray, List.set_cons_zero, List.set_cons_succ]
    refine wpAnyH_ready (rs := [8]) (by kernel_rfl) (by simp) ?_
    refine AllReadyH.cons rfl (fun K hK => ?_) AllReadyH.nil
    go_simp
    refine Calls.mono (hWr.out _ HMc.out) ?_
    rintro e wb ⟨g1, rfl, hr, gb⟩
    have HY := Lib.hid (hr.buf hok1.out)
    clear hr
    refine hK.out _ _ (hHeld.grew gb) (fun hHeld => ?_)
    clear hK K
    replace kMc := kMc.grew gb
    replace kRc := kRc.grew gb
    replace kGc := kGc.grew gb
    replace kDc := kDc.grew gb
    replace hBc := hBc.grew gb
    replace HMc := Lib.hid (HMc.out.grew gb)
    replace HFc := Lib.hid (HFc.out.grew gb)
    replace Tc := Tc.trans (Trn.of_grew gb)
    clear gb
    try simp only [List.getElem_toArray, List.getElem_cons_succ, List.getElem_cons_zero, Act.put, List.setIfInBounds_toArray, List.set_cons_zero, List.set_cons_succ]
    refine wpAnyH_take (i := 9) (v := ?_) rfl (by kernel_rfl) (by kernel_rfl) (by kernel_rfl) (fun _ _ _ h => h) (Or.inl ⟨by rfl, ?_⟩) hHeld ?_
    rotate_left
    · intro wq hSw
      replace hSw : Blk wq G rgVr 82 := hSw
      go_simp
      try with_reducible rfl
    try simp only [List.getElem_toArray, List.getElem_cons_succ, List.getElem_cons_zero, Act.put, List.setIfInBounds_toArray, List.set_cons_zero, List.set_cons_succ]
    refine wpAnyH_take (i := 10) (v := ?_) rfl (by kernel_rfl) (by kernel_rfl) (by kernel_rfl) (fun _ _ _ h => h) (Or.inl ⟨by rfl, ?_⟩) hHeld ?_
    rotate_left
    · intro wq hSw
      replace hSw : Blk wq G rgVr 82 := hSw
      go_simp
      try with_reducible rfl
    try simp only [List.getElem_toArray, List.getElem_cons_succ, List.getElem_cons_zero, Act.put, List.setIfInBounds_toArray, List.set_cons_zero, List.set_cons_succ]
    refine wpAnyH_take (i := 11) (v := ?_) rfl (by kernel_rfl) (by kernel_rfl) (by kernel_rfl) (fun _ _ _ h => h) (Or.inl ⟨by rfl, ?_⟩) hHeld ?_
    rotate_left
    · intro wq hSw
      replace hSw : Blk wq G rgVr 82 := hSw
      go_simp
      try with_reducible rfl
    try simp only [List.getElem_toArray, List.getElem_cons_succ, List.getElem_cons_zero, Act.put, List.setIfInBounds_toArray, List.set_cons_zero, List.set_cons_succ]
    refine wpAnyH_ready (rs := [12]) (by kernel_rfl) (by simp) ?_
    refine AllReadyH.cons rfl (fun K hK => ?_) AllReadyH.nil
    have z0 := kMc.cell 0
    have f0 := kMc.free 0
    go_simp
    have kMd := kMc.set (o := 0) (.slice (some ⟨g1, 0, none⟩) n n)
    have HMd := Lib.hid (HY.out.store kMc (.slice (some ⟨g1, 0, none⟩) n n))
    have HFd := Lib.hid (HFc.out.store kMc (.slice (some ⟨g1, 0, none⟩) n n))
    have kRd := kRc.other (c := M) (o := 0) nRM (.slice (some ⟨g1, 0, none⟩) n n)
    have kGd := kGc.other (c := M) (o := 0) (by omega) (.slice (some ⟨g1, 0, none⟩) n n)
    have kDd := kDc.other (c := M) (o := 0) (by omega) (.slice (some ⟨g1, 0, none⟩) n n)
    have hBd := hBc.other (c := M) (o := 0) (by omega) (.slice (some ⟨g1, 0, none⟩) n n)
    have Td := Tc.only (Only.set wb M 0 (.slice (some ⟨g1, 0, none⟩) n n)) LM.out
    refine hK.out _ _ (hHeld.other (by omega) _) (fun hHeld => ?_)
    clear hK K
    clear z0 f0 kMc HMc HFc kRc kGc kDc hBc Tc HY
    generalize (wb.setCell ⟨M, 0, none⟩ (.slice (some ⟨g1, 0, none⟩) n n)) = ws at *
    replace kMd : Blk ws M #[.slice (some ⟨g1, 0, none⟩) n n] 27 := kMd
    try simp only [List.getElem_toArray, List.getElem_cons_succ, List.getElem_cons_zero, Act.put, List.setIfInBounds_toArray, List.set_cons_zero, List.set_cons_succ]
    refine wpAnyH_done (by kernel_rfl) ?_ _
    try simp only [List.getElem_toArray, List.getElem_cons_succ, List.getElem_cons_zero, Act.put, List.setIfInBounds_toArray, List.set_cons_zero, List.set_cons_succ]
    clear hHeld
    go_upto_region 14 with fail
    have kMc := kMd.drew
    have kRc := kRd.drew
    have kGc := kGd.drew
    have kDc := kDd.drew
    have hBc := hBd.drew
    have HMc := Lib.hid HMd.out.drew
    have HFc := Lib.hid HFd.out.drew
    have Tc := Td.trans (Trn.of_grew (Grew.refl ws).drew1)
    have gdr := (Grew.refl ws).drew1
    clear kMd kRd kGd kDd hBd HMd HFd Td
    have kDh := kDc
    refine wp_region_held_drew (S := fun w' => Blk w' D (dsA ds) 86) (by kernel_rfl) (kDh) (fun hHeld => ?_)
    replace hHeld : Blk ws.drew D (dsA ds) 86 := hHeld
    generalize ws.drew = wq1 at *
    refine wpAnyH_take (i := 1) (v := (.agg (dsA ds))) rfl (by kernel_rfl) (by kernel_rfl) (by kernel_rfl) (fun _ _ _ h => h) (yl_ds H16.out rfl (by rfl) (by rfl) fun _ h => h) hHeld ?_
    try simp only [List.getElem_toArray, List.getElem_cons_succ, List.getElem_cons_zero, Act.put, List.setIfInBounds_toArray, List.set_cons_zero, List.set_cons_succ]
    refine wpAnyH_take (i := 3) (v := ?_) rfl (by kernel_rfl) (by kernel_rfl) (by kernel_rfl) (fun _ _ _ h => h) (Or.inl ⟨by rfl, ?_⟩) hHeld ?_
    rotate_left
    · intro wq hSw
      replace hSw : Blk wq D (dsA ds) 86 := hSw
      go_simp
      try with_reducible rfl
    try simp only [List.getElem_toArray, List.getElem_cons_succ, List.getElem_cons_zero, Act.put, List.setIfInBounds_toArray, List.set_cons_zero, List.set_cons_succ]
    refine wpAnyH_ready (rs := [0, 2]) (by kernel_rfl) (by simp) ?_
    refine AllReadyH.cons rfl (fun K hK => ?_) (AllReadyH.cons rfl (fun K hK => ?_) AllReadyH.nil)
    · have y0 := kMc.cell 0
      go_simp
      refine hK.out _ _ (hHeld) (fun hHeld => ?_)
      clear hK K
      clear y0
      try simp only [List.getElem_toArray, List.getElem_cons_succ, List.getElem_cons_zero, Act.put, List.setIfInBounds_toArray, List.set_cons_zero, List.set_cons_succ]
      refine wpAnyH_ready (rs := [2]) (by kernel_rfl) (by simp) ?_
      refine AllReadyH.cons rfl (fun K hK => ?_) AllReadyH.nil
      go_simp
      refine Calls.mono (hAd.out _) ?_
      rintro e we ⟨rfl, ga⟩
      refine hK.out _ _ (hHeld.grew ga) (fun hHeld => ?_)
      clear hK K
      replace kMc := kMc.grew ga
      replace kRc := kRc.grew ga
      replace kGc := kGc.grew ga
      replace kDc := kDc.grew ga
      replace hBc := hBc.grew ga
      replace HMc := Lib.hid (HMc.out.grew ga)
      replace HFc := Lib.hid (HFc.out.grew ga)
      replace Tc := Tc.trans (Trn.of_grew ga)
      clear ga
      try simp only [List.getElem_toArray, List.getElem_cons_succ, List.getElem_cons_zero, Act.put, List.setIfInBounds_toArray, List.set_cons_zero, List.set_cons_succ]
      refine wpAnyH_ready (rs := [4]) (by kernel_rfl) (by simp) ?_
      refine AllReadyH.cons rfl (fun K hK => ?_) AllReadyH.nil
      go_simp
      refine Calls.mono (hFi.out _ _ HMc.out HFc.out) ?_
      rintro e wf ⟨g2, rfl, hr, gb⟩
      rw [hys.out] at hr ⊢
      have HY := Lib.hid (hr.buf hok2.out)
      clear hr
      refine hK.out _ _ (hHeld.grew gb) (fun hHeld => ?_)
      clear hK K
      replace kMc := kMc.grew gb
      replace kRc := kRc.grew gb
      replace kGc := kGc.grew gb
      replace kDc := kDc.grew gb
      replace hBc := hBc.grew gb
      replace HMc := Lib.hid (HMc.out.grew gb)
      replace HFc := Lib.hid (HFc.out.grew gb)
      replace Tc := Tc.trans (Trn.of_grew gb)
      clear gb
      try simp only [List.getElem_toArray, List.getElem_cons_succ, List.getElem_cons_zero, Act.put, List.setIfInBounds_toArray, List.set_cons_zero, List.set_cons_succ]
      refine wpAnyH_take (i := 5) (v := ?_) rfl (by kernel_rfl) (by kernel_rfl) (by kernel_rfl) (fun _ _ _ h => h) (Or.inl ⟨by rfl, ?_⟩) hHeld ?_
      rotate_left
      · intro wq hSw
        replace hSw : Blk wq D (dsA ds) 86 := hSw
        go_simp
        try with_reducible rfl
      try simp only [List.getElem_toArray, List.getElem_cons_succ, List.getElem_cons_zero, Act.put, List.setIfInBounds_toArray, List.set_cons_zero, List.set_cons_succ]
      refine wpAnyH_take (i := 6) (v := ?_) rfl (by kernel_rfl) (by kernel_rfl) (by kernel_rfl) (fun _ _ _ h => h) (Or.inl ⟨by rfl, ?_⟩) hHeld ?_
      rotate_left
      · intro wq hSw
        replace hSw : Blk wq D (dsA ds) 86 := hSw
        go_simp
        try with_reducible rfl
      try simp only [List.getElem_toArray, List.getElem_cons_succ, List.getElem_cons_zero, Act.put, List.setIfInBounds_toArray, List.set_cons_zero, List.set_cons_succ]
      refine wpAnyH_take (i := 7) (v := ?_) rfl (by kernel_rfl) (by kernel_rfl) (by kernel_rfl) (fun _ _ _ h => h) (Or.inl ⟨by rfl, ?_⟩) hHeld ?_
      rotate_left
      · intro wq hSw
        replace hSw : Blk wq D (dsA ds) 86 := hSw
        go_simp
        try with_reducible rfl
      try simp only [List.getElem_toArray, List.getElem_cons_succ, List.getElem_cons_zero, Act.put, List.setIfInBounds_toArray, List.set_cons_zero, List.set_cons_succ]
      refine wpAnyH_ready (rs := [8]) (by kernel_rfl) (by simp) ?_
      refine AllReadyH.cons rfl (fun K hK => ?_) AllReadyH.nil
      have z0 := kMc.cell 0
      have f0 := kMc.free 0
      go_simp
      have kMd := kMc.set (o := 0) (.slice (some ⟨g2, 0, none⟩) n n)
      have HMd := Lib.hid (HY.out.store kMc (.slice (some ⟨g2, 0, none⟩) n n))
      have HFd := Lib.hid (HFc.out.store kMc (.slice (some ⟨g2, 0, none⟩) n n))
      have kRd := kRc.other (c := M) (o := 0) nRM (.slice (some ⟨g2, 0, none⟩) n n)
      have kGd := kGc.other (c := M) (o := 0) (by omega) (.slice (some ⟨g2, 0, none⟩) n n)
      have kDd := kDc.other (c := M) (o := 0) (by omega) (.slice (some ⟨g2, 0, none⟩) n n)
      have hBd := hBc.other (c := M) (o := 0) (by omega) (.slice (some ⟨g2, 0, none⟩) n n)
      have Td := Tc.only (Only.set wf M 0 (.slice (some ⟨g2, 0, none⟩) n n)) LM.out
      refine hK.out _ _ (hHeld.other (by omega) _) (fun hHeld => ?_)
      clear hK K
      clear z0 f0 kMc HMc HFc kRc kGc kDc hBc Tc HY
      generalize (wf.setCell ⟨M, 0, none⟩ (.slice (some ⟨g2, 0, none⟩) n n)) = ws at *
      replace kMd : Blk ws M #[.slice (some ⟨g2, 0, none⟩) n n] 27 := kMd
      try simp only [List.getElem_toArray, List.getElem_cons_succ, List.getElem_cons_zero, Act.put, List.setIfInBounds_toArray, List.set_cons_zero, List.set_cons_succ]
      refine wpAnyH_done (by kernel_rfl) ?_ _
      try simp only [List.getElem_toArray, List.getElem_cons_succ, List.getElem_cons_zero, Act.put, List.setIfInBounds_toArray, List.set_cons_zero, List.set_cons_succ]
      clear hHeld
      generalize ws = w9 at *
      go_upto_region 15 with fail
      have z0 := fun z : Over w9 => hBd.rgO 1 (by decide) z
      refine region_over_tail 7 (by kernel_rfl) (by kernel_rfl) ?_
      simp only [List.take_succ_cons, List.take_zero, List.drop_succ_cons, List.drop_zero]
      repeat (first | go_big_quiet_step (fail) | quiet_step (fail))
      refine wpQuiet_nil ?_
      intro z
      have gz := z.g
      have kM9 := kMd.grew gz
      have kR9 := kRd.grew gz
      have kG9 := kGd.grew gz
      have kD9 := kDd.grew gz
      have hB9 := hBd.grew gz
      have HM9 := Lib.hid (HMd.out.grew gz)
      have T9 := Td.trans (Trn.of_grew gz)
      clear z0 kMd kRd kGd kDd hBd HMd HFd Td gz
      generalize z.w = w8 at *
      have c0 := hB9.rgC 1 (by decide)
      have f0 := hB9.free 1
      have lp := hB9.lt
      have lM9 := kM9.lt
      go_upto_region 16 with fail
      have o3 := Only.set w8 p 1 (.int .u32 (orB 2 (c 1)))
      have hBv := hB9.rg (by decide : 1 < 15) (orB 2 (c 1))
      have kMv := kM9.only o3 (by omega)
      have kRv := kR9.only o3 (by omega)
      have kGv := kG9.only o3 (by omega)
      have kDv := kD9.only o3 (by omega)
      have HMv := Lib.hid (HM9.out.only o3 hB9 (nb_rg c))
      have Tv := T9.trans o3.trn
      clear c0 f0 hB9 kM9 kR9 kG9 kD9 HM9 T9 o3
      generalize (w8.setCell ⟨p, 1, none⟩ (.int .u32 (orB 2 (c 1)))) = wv at *
      have y0 := kMv.cell 0
      go_wp2_with (first | (refine ld_ri rfl (.tmp 8) rfl _ rfl rfl kGv (by rfl) ?_) | (refine ld_ds rfl (.tmp 9) rfl _ rfl H16.out kDv (by rfl) ?_))
      refine (hDn.out _ _ _ _ hBv HMv.out).mono ?_
      rintro e wd ⟨a1, n1, m1, rfl, HY, hBd, td⟩
      have kRd := kRv.trn td (by have := hBv.lt; omega)
      have z0 := kRd.cell 0
      have f0 := kRd.free 0
      clear y0
      go_wp2_with fail
      have hset := (kRd.set (o := 0) (.slice a1 n1 m1)).cell 0
      have HYz := Lib.hid (HY.out.store kRd (.slice a1 n1 m1))
      have tz : Trn p w _ := (Tv.trans td).only (Only.set wd R 0 (.slice a1 n1 m1)) LR.out
      have hBz := hBd.other (c := R) (o := 0) (by omega) (.slice a1 n1 m1)
      exact bodyPost_ret (v := .tuple #[.agg #[.slice a1 n1 m1], .bool true]) (by simp [results, Try.results47, go_sem, hset]) rfl ⟨_, _, _, rfl, HYz, hBz, tz⟩
    · go_simp
      refine Calls.mono (hAd.out _) ?_
      rintro e we ⟨rfl, ga⟩
      refine hK.out _ _ (hHeld.grew ga) (fun hHeld => ?_)
      clear hK K
      replace kMc := kMc.grew ga
      replace kRc := kRc.grew ga
      replace kGc := kGc.grew ga
      replace kDc := kDc.grew ga
      replace hBc := hBc.grew ga
      replace HMc := Lib.hid (HMc.out.grew ga)
      replace HFc := Lib.hid (HFc.out.grew ga)
      replace Tc := Tc.trans (Trn.of_grew ga)
      clear ga
      try simp only [List.getElem_toArray, List.getElem_cons_succ, List.getElem_cons_zero, Act.put, List.setIfInBounds_toArray, List.set_cons_zero, List.set_cons_succ]
      refine wpAnyH_ready (rs := [0]) (by kernel_rfl) (by simp) ?_
      refine AllReadyH.cons rfl (fun K hK => ?_) AllReadyH.nil
      have y0 := kMc.cell 0
      go_simp
      refine hK.out _ _ (hHeld) (fun hHeld => ?_)
      clear hK K
      clear y0
      try simp only [List.getElem_toArray, List.getElem_cons_succ, List.getElem_cons_zero, Act.put, List.setIfInBounds_toArray, List.set_cons_zero, List.set_cons_succ]
      refine wpAnyH_ready (rs := [4]) (by kernel_rfl) (by simp) ?_
      refine AllReadyH.cons rfl (fun K hK => ?_) AllReadyH.nil
      go_simp
      refine Calls.mono (hFi.out _ _ HMc.out HFc.out) ?_
      rintro e wf ⟨g2, rfl, hr, gb⟩
      rw [hys.out] at hr ⊢
      have HY := Lib.hid (hr.buf hok2.out)
      clear hr
      refine hK.out _ _ (hHeld.grew gb) (fun hHeld => ?_)
      clear hK K
      replace kMc := kMc.grew gb
      replace kRc := kRc.grew gb
      replace kGc := kGc.grew gb
      replace kDc := kDc.grew gb
      replace hBc := hBc.grew gb
      replace HMc := Lib.hid (HMc.out.grew gb)
      replace HFc := Lib.hid (HFc.out.grew gb)
      replace Tc := Tc.trans (Trn.of_grew gb)
      clear gb
      try simp only [List.getElem_toArray, List.getElem_cons_succ, List.getElem_cons_zero, Act.put, List.setIfInBounds_toArray, List.set_cons_zero, List.set_cons_succ]
      refine wpAnyH_take (i := 5) (v := ?_) rfl (by kernel_rfl) (by kernel_rfl) (by kernel_rfl) (fun _ _ _ h => h) (Or.inl ⟨by rfl, ?_⟩) hHeld ?_
      rotate_left
      · intro wq hSw
        replace hSw : Blk wq D (dsA ds) 86 := hSw
        go_simp
        try with_reducible rfl
      try simp only [List.getElem_toArray, List.getElem_cons_succ, List.getElem_cons_zero, Act.put, List.setIfInBounds_toArray, List.set_cons_zero, List.set_cons_succ]
      refine wpAnyH_take (i := 6) (v := ?_) rfl (by kernel_rfl) (by kernel_rfl) (by kernel_rfl) (fun _ _ _ h => h) (Or.inl ⟨by rfl, ?_⟩) hHeld ?_
      rotate_left
      · intro wq hSw
        replace hSw : Blk wq D (dsA ds) 86 := hSw
        go_simp
        try with_reducible rfl
      try simp only [List.getElem_toArray, List.getElem_cons_succ, List.getElem_cons_zero, Act.put, List.setIfInBounds_toArray, List.set_cons_zero, List.set_cons_succ]
      refine wpAnyH_take (i := 7) (v := ?_) rfl (by kernel_rfl) (by kernel_rfl) (by kernel_rfl) (fun _ _ _ h => h) (Or.inl ⟨by rfl, ?_⟩) hHeld ?_
      rotate_left
      · intro wq hSw
        replace hSw : Blk wq D (dsA ds) 86 := hSw
        go_simp
        try with_reducible rfl
      try simp only [List.getElem_toArray, List.getElem_cons_succ, List.getElem_cons_zero, Act.put, List.setIfInBounds_toArray, List.set_cons_zero, List.set_cons_succ]
      refine wpAnyH_ready (rs := [8]) (by kernel_rfl) (by simp) ?_
      refine AllReadyH.cons rfl (fun K hK => ?_) AllReadyH.nil
      have z0 := kMc.cell 0
      have f0 := kMc.free 0
      go_simp
      have kMd := kMc.set (o := 0) (.slice (some ⟨g2, 0, none⟩) n n)
      have HMd := Lib.hid (HY.out.store kMc (.slice (some ⟨g2, 0, none⟩) n n))
      have HFd := Lib.hid (HFc.out.store kMc (.slice (some ⟨g2, 0, none⟩) n n))
      have kRd := kRc.other (c := M) (o := 0) nRM (.slice (some ⟨g2, 0, none⟩) n n)
      have kGd := kGc.other (c := M) (o := 0) (by omega) (.slice (some ⟨g2, 0, none⟩) n n)
      have kDd := kDc.other (c := M) (o := 0) (by omega) (.slice (some ⟨g2, 0, none⟩) n n)
      have hBd := hBc.other (c := M) (o := 0) (by omega) (.slice (some ⟨g2, 0, none⟩) n n)
      have Td := Tc.only (Only.set wf M 0 (.slice (some ⟨g2, 0, none⟩) n n)) LM.out
      refine hK.out _ _ (hHeld.other (by omega) _) (fun hHeld => ?_)
      clear hK K
      clear z0 f0 kMc HMc HFc kRc kGc kDc hBc Tc HY
      generalize (wf.setCell ⟨M, 0, none⟩ (.slice (some ⟨g2, 0, none⟩) n n)) = ws at *
      replace kMd : Blk ws M #[.slice (some ⟨g2, 0, none⟩) n n] 27 := kMd
      try simp only [List.getElem_toArray, List.getElem_cons_succ, List.getElem_cons_zero, Act.put, List.setIfInBounds_toArray, List.set_cons_zero, List.set_cons_succ]
      refine wpAnyH_done (by kernel_rfl) ?_ _
      try simp only [List.getElem_toArray, List.getElem_cons_succ, List.getElem_cons_zero, Act.put, List.setIfInBounds_toArray, List.set_cons_zero, List.set_cons_succ]
      clear hHeld
      generalize ws = w9 at *
      go_upto_region 15 with fail
      have z0 := fun z : Over w9 => hBd.rgO 1 (by decide) z
      refine region_over_tail 7 (by kernel_rfl) (by kernel_rfl) ?_
      simp only [List.take_succ_cons, List.take_zero, List.drop_succ_cons, List.drop_zero]
      repeat (first | go_big_quiet_step (fail) | quiet_step (fail))
      refine wpQuiet_nil ?_
      intro z
      have gz := z.g
      have kM9 := kMd.grew gz
      have kR9 := kRd.grew gz
      have kG9 := kGd.grew gz
      have kD9 := kDd.grew gz
      have hB9 := hBd.grew gz
      have HM9 := Lib.hid (HMd.out.grew gz)
      have T9 := Td.trans (Trn.of_grew gz)
      clear z0 kMd kRd kGd kDd hBd HMd HFd Td gz
      generalize z.w = w8 at *
      have c0 := hB9.rgC 1 (by decide)
      have f0 := hB9.free 1
      have lp := hB9.lt
      have lM9 := kM9.lt
      go_upto_region 16 with fail
      have o3 := Only.set w8 p 1 (.int .u32 (orB 2 (c 1)))
      have hBv := hB9.rg (by decide : 1 < 15) (orB 2 (c 1))
      have kMv := kM9.only o3 (by omega)
      have kRv := kR9.only o3 (by omega)
      have kGv := kG9.only o3 (by omega)
      have kDv := kD9.only o3 (by omega)
      have HMv := Lib.hid (HM9.out.only o3 hB9 (nb_rg c))
      have Tv := T9.trans o3.trn
      clear c0 f0 hB9 kM9 kR9 kG9 kD9 HM9 T9 o3
      generalize (w8.setCell ⟨p, 1, none⟩ (.int .u32 (orB 2 (c 1)))) = wv at *
      have y0 := kMv.cell 0
      go_wp2_with (first | (refine ld_ri rfl (.tmp 8) rfl _ rfl rfl kGv (by rfl) ?_) | (refine ld_ds rfl (.tmp 9) rfl _ rfl H16.out kDv (by rfl) ?_))
      refine (hDn.out _ _ _ _ hBv HMv.out).mono ?_
      rintro e wd ⟨a1, n1, m1, rfl, HY, hBd, td⟩
      have kRd := kRv.trn td (by have := hBv.lt; omega)
      have z0 := kRd.cell 0
      have f0 := kRd.free 0
      clear y0
      go_wp2_with fail
      have hset := (kRd.set (o := 0) (.slice a1 n1 m1)).cell 0
      have HYz := Lib.hid (HY.out.store kRd (.slice a1 n1 m1))
      have tz : Trn p w _ := (Tv.trans td).only (Only.set wd R 0 (.slice a1 n1 m1)) LR.out
      have hBz := hBd.other (c := R) (o := 0) (by omega) (.slice a1 n1 m1)
      exact bodyPost_ret (v := .tuple #[.agg #[.slice a1 n1 m1], .bool true]) (by simp [results, Try.results47, go_sem, hset]) rfl ⟨_, _, _, rfl, HYz, hBz, tz⟩

end Go.Proofs.Ytoehdhhodidehaa
