/-
  Package nic: the cases of send in which a descriptor is done with.
-/
import Derived.Test.YtoehdhhodidehaaRows
import Derived.Test.YtoehdhhodidehaaNcJ
import Derived.WalkKit
import Derived.Outline
import Derived.Handy
import Derived.StillTailTactics
import Derived.Deep.QuietTactic
import Derived.BigQuiet
import Derived.Deep.DeepCutAuto
import Derived.Deep.RegionHeld3
import Derived.Great.BuildSlice
import Derived.Deep.WholeRow
import Derived.Lib.SliceRun
import Derived.BigFrame
set_option maxRecDepth 4000
set_option linter.unusedVariables false
set_option linter.unusedSimpArgs false
namespace Go.Proofs.Ytoehdhhodidehaa
open Go.RowKit

set_option maxHeartbeats 2000000 in
theorem send_bad1 {c : Nat → Int} {p : Nat} {w : World} {a : Option Addr} {n m : Nat} {xs : List Int} (hB : Blk w p (rgA c) 80) (hM : Buf w (.slice a n m) xs) (hl : xs.length ≤ 140737488355328) (hc : ROk c) (hw : waitst c = true) (hin : insideV xs.length (c 3 + 16 * c 5) 16 = true) {ds : List Int} (hds : bytesV xs (c 3 + 16 * c 5) 16 = ds) (hown : ownB ds = true) (hi : insideV xs.length (adrV ds) (lenV ds) = false) :
    Calls Try.prog 36 #[.pointer (some ⟨p, 0, none⟩), .agg #[.slice a n m]] w fun e w' => ∃ a1 n1 m1 a2 n2 m2, e = .returned (.tuple #[.agg #[.slice a1 n1 m1], .slice a2 n2 m2, .bool true]) ∧ Hid (Buf w' (.slice a1 n1 m1) (writeV xs (c 3 + 16 * c 5 + 10) 4 (bothV ds 2))) ∧ Hid (Buf w' (.slice a2 n2 m2) []) ∧ Blk w' p (rgA (headt (failC c))) 80 ∧ Trn p w w' := by
  have hp := hB.lt
  have HM := Lib.hid hM
  have HXO := Lib.hid hM.ok
  have hWt := Lib.hid (fun (w : World) (h : Blk w p (rgA c) 80) => waits_t h hc.r0.1 hc.r0.2)
  have hOw := Lib.hid (fun (w : World) (h : Buf w (.slice a n m) xs) => ownRam_c hl h)
  rw [hw] at hWt
  have hok : AreBytes (bytesV xs (c 3 + 16 * c 5) 16) := bytesV_ok hM.ok _ _
  have h16 := bytesV_16 hin
  have hNx := Lib.hid (fun (w : World) (h : Blk w p (rgA c) 80) (h2 : Buf w (.slice a n m) xs) => next_t_yes h h2 hl hc.r3.1 hc.r3.2 hc.r5.1 (by have := hc.r4; have := hc.r5; omega) hin)
  rw [hds] at hok h16 hNx
  have H16 := Lib.hid h16
  have hOn := Lib.hid (owned_c hok h16)
  unfold ownB at hown
  rw [hown] at hOn
  have hpl := parts_lt hok h16
  have hAd := Lib.hid (address_c hok h16)
  have hLn := Lib.hid (length_c hok h16)
  change Hid (∀ w, Calls _ _ _ w fun e w' => e = .returned (.int .u64 (adrV ds)) ∧ Grew w w') at hAd
  change Hid (∀ w, Calls _ _ _ w fun e w' => e = .returned (.int .i64 (lenV ds)) ∧ Grew w w') at hLn
  have hBy := Lib.hid (fun (w : World) (h : Buf w (.slice a n m) xs) => bytes_c (adrV ds) (lenV ds) hpl.1.1 hpl.1.2 (by omega) (by omega) w h hl)
  rw [hi] at hBy
  have hbo := bothV_lt hok h16 2 (by decide) (by decide)
  have hDn := Lib.hid (fun (w : World) (h : Blk w p (rgA (failC c)) 80) (h2 : Buf w (.slice a n m) xs) => done_t 2 (by decide) (by decide) h h2 hl hok h16 (ROk.fail hc).r3.1 (ROk.fail hc).r3.2 (ROk.fail hc).r5.1 (by have := (ROk.fail hc).r4; have := (ROk.fail hc).r5; omega) (ROk.fail hc).r4.1 (ROk.fail hc).r4.2 hbo.1 hbo.2)
  rw [show (failC c) 3 = c 3 from rfl, show (failC c) 5 = c 5 from rfl] at hDn
  have hFl := Lib.hid (fun (w : World) (h : Blk w p (rgA c) 80) => fail_c h hc.r12.1 hc.r12.2 hc.r1.1 hc.r1.2)
  generalize hFg : bytesV xs (adrV ds) (lenV ds) = F at *
  have HFg := Lib.hid hFg
  clear hM hl hc hw hin hok h16 hown hpl hbo hi hds hFg
  go_enter Try.func36, Try.ntmps36
  go_upto_region 1 with fail
  have kM : Blk ((w.alloc (.cells #[.slice a n m] 27)).alloc (.cells #[.slice none 0 0] 27)) w.heap.size #[.slice a n m] 27 := (Blk.new w #[.slice a n m] 27 _ rfl).alloc (.cells #[.slice none 0 0] 27)
  have kR : Blk ((w.alloc (.cells #[.slice a n m] 27)).alloc (.cells #[.slice none 0 0] 27)) (w.heap.size + 1) #[.slice none 0 0] 27 := Blk.new (w.alloc (.cells #[.slice a n m] 27)) #[.slice none 0 0] 27 _ (by simp)
  have g0 : Grew w ((w.alloc (.cells #[.slice a n m] 27)).alloc (.cells #[.slice none 0 0] 27)) := ((Grew.refl w).alloc (.cells #[.slice a n m] 27)).alloc (.cells #[.slice none 0 0] 27)
  replace hB := ((hB).alloc (.cells #[.slice a n m] 27)).alloc (.cells #[.slice none 0 0] 27)
  generalize ((w.alloc (.cells #[.slice a n m] 27)).alloc (.cells #[.slice none 0 0] 27)) = w0 at *
  have lM : w.heap.size ≤ w.heap.size := by omega
  have lR : w.heap.size ≤ (w.heap.size + 1) := by omega
  have nMR : w.heap.size ≠ (w.heap.size + 1) := by omega
  have nRM : (w.heap.size + 1) ≠ w.heap.size := by omega
  generalize (w.heap.size + 1) = R at *
  generalize hZ : w.heap.size = M at *
  have HZ := Lib.hid hZ
  clear hZ
  have LM : Hid (w.heap.size ≤ M) := Lib.hid (by rw [HZ.out]; exact lM)
  have LR : Hid (w.heap.size ≤ R) := Lib.hid (by rw [HZ.out]; exact lR)
  have hpM : p < M := hp
  go_wp2_with fail
  refine (sending_c _).mono ?_
  rintro e w1 ⟨rfl, g1⟩
  have kM1 := kM.grew g1
  have kR1 := kR.grew g1
  have hB1 := hB.grew g1
  have g01 := g0.trans g1
  have lM1 := kM1.lt
  have lR1 := kR1.lt
  go_upto_region 2 with (first | (refine al_ri rfl rfl ?_; intro wa kA gA) | (refine st_ri rfl (.tmp 7) (.tmp 11) rfl rfl rgVt rfl rgVt_one kA rfl (by rfl) (by rfl) ?_; intro w2 kG o2))
  have g12 : Grew w1 w2 := o2.grew gA (Nat.le_refl _)
  have kM2 := kM1.grew g12
  have kR2 := kR1.grew g12
  have hB2 := hB1.grew g12
  have g02 : Grew w w2 := g01.trans g12
  have lG : M < w1.heap.size ∧ R < w1.heap.size := ⟨lM1, lR1⟩
  clear kM kR hB g0 g1 kM1 kR1 hB1 g01 lM1 lR1 o2 kA gA g12
  generalize w1.heap.size = G at *
  go_wp2_with (refine ld_ri rfl (.tmp 7) rfl _ rfl rfl kG (by rfl) ?_)
  refine (hWt.out _ hB2).mono ?_
  rintro e w3 ⟨rfl, g3⟩
  have kM3 := kM2.grew g3
  have kR3 := kR2.grew g3
  have kG3 := kG.grew g3
  have hB3 := hB2.grew g3
  have g03 := g02.trans g3
  clear kM2 kR2 kG hB2 g02 g3
  have y0 := kM3.cell 0
  go_wp2_with (refine ld_ri rfl (.tmp 7) rfl _ rfl rfl kG3 (by rfl) ?_)
  refine (hNx.out _ hB3 (HM.out.grew g03)).mono ?_
  rintro e w4 ⟨rfl, hB4, t4⟩
  have lB3 := hB3.lt
  have lM3 := kM3.lt
  have lR3 := kR3.lt
  have kM4 := kM3.trn t4 (by omega)
  have kR4 := kR3.trn t4 (by omega)
  have kG4 := kG3.trn t4 (by omega)
  have HM4 := Lib.hid ((HM.out.grew g03).trn hB3 t4)
  have T4 := (Trn.of_grew g03).trans t4
  have s4 := t4.size
  have lG3 := kG3.lt
  clear y0 kM3 kR3 kG3 hB3 t4 HM
  go_upto_region 5 with (first | (refine al_ds rfl rfl ?_; intro wa kA gA) | (refine st_ds rfl (.tmp 8) (.tmp 23) rfl rfl ds H16.out kA rfl (by rfl) (by rfl) ?_; intro w5 kD o5))
  have g45 : Grew w4 w5 := o5.grew gA (Nat.le_refl _)
  have kM5 := kM4.grew g45
  have kR5 := kR4.grew g45
  have kG5 := kG4.grew g45
  have hB5 := hB4.grew g45
  have HM5 := Lib.hid (HM4.out.grew g45)
  have T5 := T4.trans (Trn.of_grew g45)
  have nD : M < w4.heap.size ∧ R < w4.heap.size ∧ G < w4.heap.size ∧ p < w4.heap.size := ⟨by omega, by omega, by omega, by omega⟩
  clear kM4 kR4 kG4 hB4 HM4 T4 g45 o5 g03 kA gA
  generalize w4.heap.size = D at *
  go_upto_region 7 with fail
  go_wp2_with (refine ld_ds rfl (.tmp 8) rfl _ rfl H16.out kD (by rfl) ?_)
  refine (hOn.out _).mono ?_
  rintro e w6 ⟨rfl, g6⟩
  have kM6 := kM5.grew g6
  have kR6 := kR5.grew g6
  have kG6 := kG5.grew g6
  have kD6 := kD.grew g6
  have hB6 := hB5.grew g6
  have HM6 := Lib.hid (HM5.out.grew g6)
  have T6 := T5.trans (Trn.of_grew g6)
  clear kM5 kR5 kG5 kD hB5 HM5 T5 g6
  go_upto_region 9 with fail
  refine wp_region_held_drew (S := fun w' => Grew w6 w') (by kernel_rfl) ((Grew.refl w6).drew1) (fun hHeld => ?_)
  replace hHeld : Grew w6 w6.drew := hHeld
  generalize w6.drew = wq0 at *
  refine wpAnyH_take (i := 0) (v := ?_) rfl (by kernel_rfl) (by kernel_rfl) (by kernel_rfl) (fun _ _ _ h => h) (Or.inl ⟨by rfl, ?_⟩) hHeld ?_
  rotate_left
  · intro wq hSw
    replace hSw : Grew w6 wq := hSw
    have y0 := (kM6.grew hSw).cell 0
    go_simp
    try with_reducible rfl
  try simp only [List.getElem_toArray, List.getElem_cons_succ, List.getElem_cons_zero, Act.put, List.setIfInBounds_toArray, List.set_cons_zero, List.set_cons_succ]
  refine wpAnyH_take (i := 1) (v := (.agg (dsA ds))) rfl (by kernel_rfl) (by kernel_rfl) (by kernel_rfl) (fun _ _ _ h => h) (yl_ds H16.out rfl (by rfl) (by rfl) fun _ h => kD6.grew h) hHeld ?_
  try simp only [List.getElem_toArray, List.getElem_cons_succ, List.getElem_cons_zero, Act.put, List.setIfInBounds_toArray, List.set_cons_zero, List.set_cons_succ]
  refine wpAnyH_take (i := 3) (v := (.agg (dsA ds))) rfl (by kernel_rfl) (by kernel_rfl) (by kernel_rfl) (fun _ _ _ h => h) (yl_ds H16.out rfl (by rfl) (by rfl) fun _ h => kD6.grew h) hHeld ?_
  try simp only [List.getElem_toArray, List.getElem_cons_succ, List.getElem_cons_zero, Act.put, List.setIfInBounds_toArray, List.set_cons_zero, List.set_cons_succ]
  refine wpAnyH_ready (rs := [2]) (by kernel_rfl) (by simp) ?_
  refine AllReadyH.cons rfl (fun K hK => ?_) AllReadyH.nil
  go_simp
  refine Calls.mono (hAd.out _) ?_
  rintro e w7 ⟨rfl, g7⟩
  refine hK.out _ _ (hHeld.trans g7) (fun hHeld => ?_)
  clear hK K
  try simp only [List.getElem_toArray, List.getElem_cons_succ, List.getElem_cons_zero, Act.put, List.setIfInBounds_toArray, List.set_cons_zero, List.set_cons_succ]
  refine wpAnyH_ready (rs := [4]) (by kernel_rfl) (by simp) ?_
  refine AllReadyH.cons rfl (fun K hK => ?_) AllReadyH.nil
  go_simp
  refine Calls.mono (hLn.out _) ?_
  rintro e w7 ⟨rfl, g7⟩
  refine hK.out _ _ (hHeld.trans g7) (fun hHeld => ?_)
  clear hK K
  try simp only [List.getElem_toArray, List.getElem_cons_succ, List.getElem_cons_zero, Act.put, List.setIfInBounds_toArray, List.set_cons_zero, List.set_cons_succ]
  refine wpAnyH_ready (rs := [5]) (by kernel_rfl) (by simp) ?_
  refine AllReadyH.cons rfl (fun K hK => ?_) AllReadyH.nil
  go_simp
  refine Calls.mono (hBy.out _ (HM6.out.grew hHeld)) ?_
  rintro e w8 ⟨u, rfl, hu, g8⟩
  obtain ⟨b2, m2, rfl, q1, q2⟩ := hu.shape
  have HU := Lib.hid hu
  clear q1 q2 hu
  refine hK.out _ _ (hHeld.trans g8) (fun hHeld => ?_)
  clear hK K
  try simp only [List.getElem_toArray, List.getElem_cons_succ, List.getElem_cons_zero, Act.put, List.setIfInBounds_toArray, List.set_cons_zero, List.set_cons_succ]
  refine wpAnyH_take (i := 6) (v := ?_) rfl (by kernel_rfl) (by kernel_rfl) (by kernel_rfl) (fun _ _ _ h => h) (Or.inl ⟨by rfl, ?_⟩) hHeld ?_
  rotate_left
  · intro wq hSw
    replace hSw : Grew w6 wq := hSw
    go_simp
    try with_reducible rfl
  try simp only [List.getElem_toArray, List.getElem_cons_succ, List.getElem_cons_zero, Act.put, List.setIfInBounds_toArray, List.set_cons_zero, List.set_cons_succ]
  refine wpAnyH_take (i := 7) (v := ?_) rfl (by kernel_rfl) (by kernel_rfl) (by kernel_rfl) (fun _ _ _ h => h) (Or.inl ⟨by rfl, ?_⟩) hHeld ?_
  rotate_left
  · intro wq hSw
    replace hSw : Grew w6 wq := hSw
    go_simp
    try with_reducible rfl
  try simp only [List.getElem_toArray, List.getElem_cons_succ, List.getElem_cons_zero, Act.put, List.setIfInBounds_toArray, List.set_cons_zero, List.set_cons_succ]
  refine wpAnyH_take (i := 8) (v := ?_) rfl (by kernel_rfl) (by kernel_rfl) (by kernel_rfl) (fun _ _ _ h => h) (Or.inl ⟨by rfl, ?_⟩) hHeld ?_
  rotate_left
  · intro wq hSw
    replace hSw : Grew w6 wq := hSw
    go_simp
    try with_reducible rfl
  try simp only [List.getElem_toArray, List.getElem_cons_succ, List.getElem_cons_zero, Act.put, List.setIfInBounds_toArray, List.set_cons_zero, List.set_cons_succ]
  refine wpAnyH_take (i := 9) (v := ?_) rfl (by kernel_rfl) (by kernel_rfl) (by kernel_rfl) (fun _ _ _ h => h) (Or.inl ⟨by rfl, ?_⟩) hHeld ?_
  rotate_left
  · intro wq hSw
    replace hSw : Grew w6 wq := hSw
    go_simp
    try with_reducible rfl
  try simp only [List.getElem_toArray, List.getElem_cons_succ, List.getElem_cons_zero, Act.put, List.setIfInBounds_toArray, List.set_cons_zero, List.set_cons_succ]
  refine wpAnyH_take (i := 10) (v := ?_) rfl (by kernel_rfl) (by kernel_rfl) (by kernel_rfl) (fun _ _ _ h => h) (Or.inl ⟨by rfl, ?_⟩) hHeld ?_
  rotate_left
  · intro wq hSw
    replace hSw : Grew w6 wq := hSw
    go_simp
    try with_reducible rfl
  try simp only [List.getElem_toArray, List.getElem_cons_succ, List.getElem_cons_zero, Act.put, List.setIfInBounds_toArray, List.set_cons_zero, List.set_cons_succ]
  refine wpAnyH_done (by kernel_rfl) ?_ _
  try simp only [List.getElem_toArray, List.getElem_cons_succ, List.getElem_cons_zero, Act.put, List.setIfInBounds_toArray, List.set_cons_zero, List.set_cons_succ]
  have kM9 := kM6.grew hHeld
  have kR9 := kR6.grew hHeld
  have kG9 := kG6.grew hHeld
  have kD9 := kD6.grew hHeld
  have hB9 := hB6.grew hHeld
  have HM9 := Lib.hid (HM6.out.grew hHeld)
  have T9 := T6.trans (Trn.of_grew hHeld)
  clear kM6 kR6 kG6 kD6 hB6 HM6 T6 hHeld
  generalize w8 = w9 at *
  go_upto_region 11 with fail
  go_wp2_with fail
  refine (hFl.out _ hB9).mono ?_
  rintro e wv ⟨rfl, hBv, tf⟩
  have lp := hB9.lt
  have lM9 := kM9.lt
  have kMv := kM9.trn tf (by omega)
  have kRv := kR9.trn tf (by omega)
  have kGv := kG9.trn tf (by omega)
  have kDv := kD9.trn tf (by omega)
  have HMv := Lib.hid (HM9.out.trn hB9 tf)
  have Tv := T9.trans tf
  clear kM9 kR9 kG9 kD9 hB9 HM9 T9 tf
  have y0 := kMv.cell 0
  go_wp2_with (first | (refine ld_ri rfl (.tmp 7) rfl _ rfl rfl kGv (by rfl) ?_) | (refine ld_ds rfl (.tmp 8) rfl _ rfl H16.out kDv (by rfl) ?_))
  refine (hDn.out _ hBv HMv.out).mono ?_
  rintro e wd ⟨a1, n1, m1, rfl, HY, hBd, td⟩
  have kRd := kRv.trn td (by have := hBv.lt; omega)
  have z0 := kRd.cell 0
  have f0 := kRd.free 0
  clear y0
  go_wp2_with fail
  have hset := (kRd.set (o := 0) (.slice a1 n1 m1)).cell 0
  have HYz := Lib.hid (HY.out.store kRd (.slice a1 n1 m1))
  have tz : Trn p w _ := (Tv.trans td).only (Only.set wd R 0 (.slice a1 n1 m1)) LR.out
  have hBz := hBd.other (c := R) (o := 0) (by omega) (.slice a1 n1 m1)
  exact bodyPost_ret (v := .tuple #[.agg #[.slice a1 n1 m1], .slice none 0 0, .bool true]) (by simp [results, Try.results36, go_sem, hset]) rfl ⟨_, _, _, _, _, _, rfl, HYz, Lib.hid (Buf.nil _), hBz, tz⟩

set_option maxHeartbeats 2000000 in
theorem send_bad2 {c : Nat → Int} {p : Nat} {w : World} {a : Option Addr} {n m : Nat} {xs : List Int} (hB : Blk w p (rgA c) 80) (hM : Buf w (.slice a n m) xs) (hl : xs.length ≤ 140737488355328) (hc : ROk c) (hw : waitst c = true) (hin : insideV xs.length (c 3 + 16 * c 5) 16 = true) {ds : List Int} (hds : bytesV xs (c 3 + 16 * c 5) 16 = ds) (hown : ownB ds = true) (hi : insideV xs.length (adrV ds) (lenV ds) = true) (hfb : frameB (lenV ds) = false) :
    Calls Try.prog 36 #[.pointer (some ⟨p, 0, none⟩), .agg #[.slice a n m]] w fun e w' => ∃ a1 n1 m1 a2 n2 m2, e = .returned (.tuple #[.agg #[.slice a1 n1 m1], .slice a2 n2 m2, .bool true]) ∧ Hid (Buf w' (.slice a1 n1 m1) (writeV xs (c 3 + 16 * c 5 + 10) 4 (bothV ds 2))) ∧ Hid (Buf w' (.slice a2 n2 m2) []) ∧ Blk w' p (rgA (headt (failC c))) 80 ∧ Trn p w w' := by
  have hp := hB.lt
  have HM := Lib.hid hM
  have HXO := Lib.hid hM.ok
  have hWt := Lib.hid (fun (w : World) (h : Blk w p (rgA c) 80) => waits_t h hc.r0.1 hc.r0.2)
  have hOw := Lib.hid (fun (w : World) (h : Buf w (.slice a n m) xs) => ownRam_c hl h)
  rw [hw] at hWt
  have hok : AreBytes (bytesV xs (c 3 + 16 * c 5) 16) := bytesV_ok hM.ok _ _
  have h16 := bytesV_16 hin
  have hNx := Lib.hid (fun (w : World) (h : Blk w p (rgA c) 80) (h2 : Buf w (.slice a n m) xs) => next_t_yes h h2 hl hc.r3.1 hc.r3.2 hc.r5.1 (by have := hc.r4; have := hc.r5; omega) hin)
  rw [hds] at hok h16 hNx
  have H16 := Lib.hid h16
  have hOn := Lib.hid (owned_c hok h16)
  unfold ownB at hown
  rw [hown] at hOn
  have hpl := parts_lt hok h16
  have hAd := Lib.hid (address_c hok h16)
  have hLn := Lib.hid (length_c hok h16)
  change Hid (∀ w, Calls _ _ _ w fun e w' => e = .returned (.int .u64 (adrV ds)) ∧ Grew w w') at hAd
  change Hid (∀ w, Calls _ _ _ w fun e w' => e = .returned (.int .i64 (lenV ds)) ∧ Grew w w') at hLn
  have hBy := Lib.hid (fun (w : World) (h : Buf w (.slice a n m) xs) => bytes_c (adrV ds) (lenV ds) hpl.1.1 hpl.1.2 (by omega) (by omega) w h hl)
  rw [hi] at hBy
  have hbo := bothV_lt hok h16 2 (by decide) (by decide)
  have hDn := Lib.hid (fun (w : World) (h : Blk w p (rgA (failC c)) 80) (h2 : Buf w (.slice a n m) xs) => done_t 2 (by decide) (by decide) h h2 hl hok h16 (ROk.fail hc).r3.1 (ROk.fail hc).r3.2 (ROk.fail hc).r5.1 (by have := (ROk.fail hc).r4; have := (ROk.fail hc).r5; omega) (ROk.fail hc).r4.1 (ROk.fail hc).r4.2 hbo.1 hbo.2)
  rw [show (failC c) 3 = c 3 from rfl, show (failC c) 5 = c 5 from rfl] at hDn
  have hFl := Lib.hid (fun (w : World) (h : Blk w p (rgA c) 80) => fail_c h hc.r12.1 hc.r12.2 hc.r1.1 hc.r1.2)
  have hfl := bytesV_len hi
  have hIf := isFrame_b ((bytesV xs (adrV ds) (lenV ds)).length : Int)
  rw [hfl, hfb, ← hfl] at hIf
  replace hIf := Lib.hid hIf
  clear hfl hfb
  generalize hFg : bytesV xs (adrV ds) (lenV ds) = F at *
  have HFg := Lib.hid hFg
  clear hM hl hc hw hin hok h16 hown hpl hbo hi hds hFg
  go_enter Try.func36, Try.ntmps36
  go_upto_region 1 with fail
  have kM : Blk ((w.alloc (.cells #[.slice a n m] 27)).alloc (.cells #[.slice none 0 0] 27)) w.heap.size #[.slice a n m] 27 := (Blk.new w #[.slice a n m] 27 _ rfl).alloc (.cells #[.slice none 0 0] 27)
  have kR : Blk ((w.alloc (.cells #[.slice a n m] 27)).alloc (.cells #[.slice none 0 0] 27)) (w.heap.size + 1) #[.slice none 0 0] 27 := Blk.new (w.alloc (.cells #[.slice a n m] 27)) #[.slice none 0 0] 27 _ (by simp)
  have g0 : Grew w ((w.alloc (.cells #[.slice a n m] 27)).alloc (.cells #[.slice none 0 0] 27)) := ((Grew.refl w).alloc (.cells #[.slice a n m] 27)).alloc (.cells #[.slice none 0 0] 27)
  replace hB := ((hB).alloc (.cells #[.slice a n m] 27)).alloc (.cells #[.slice none 0 0] 27)
  generalize ((w.alloc (.cells #[.slice a n m] 27)).alloc (.cells #[.slice none 0 0] 27)) = w0 at *
  have lM : w.heap.size ≤ w.heap.size := by omega
  have lR : w.heap.size ≤ (w.heap.size + 1) := by omega
  have nMR : w.heap.size ≠ (w.heap.size + 1) := by omega
  have nRM : (w.heap.size + 1) ≠ w.heap.size := by omega
  generalize (w.heap.size + 1) = R at *
  generalize hZ : w.heap.size = M at *
  have HZ := Lib.hid hZ
  clear hZ
  have LM : Hid (w.heap.size ≤ M) := Lib.hid (by rw [HZ.out]; exact lM)
  have LR : Hid (w.heap.size ≤ R) := Lib.hid (by rw [HZ.out]; exact lR)
  have hpM : p < M := hp
  go_wp2_with fail
  refine (sending_c _).mono ?_
  rintro e w1 ⟨rfl, g1⟩
  have kM1 := kM.grew g1
  have kR1 := kR.grew g1
  have hB1 := hB.grew g1
  have g01 := g0.trans g1
  have lM1 := kM1.lt
  have lR1 := kR1.lt
  go_upto_region 2 with (first | (refine al_ri rfl rfl ?_; intro wa kA gA) | (refine st_ri rfl (.tmp 7) (.tmp 11) rfl rfl rgVt rfl rgVt_one kA rfl (by rfl) (by rfl) ?_; intro w2 kG o2))
  have g12 : Grew w1 w2 := o2.grew gA (Nat.le_refl _)
  have kM2 := kM1.grew g12
  have kR2 := kR1.grew g12
  have hB2 := hB1.grew g12
  have g02 : Grew w w2 := g01.trans g12
  have lG : M < w1.heap.size ∧ R < w1.heap.size := ⟨lM1, lR1⟩
  clear kM kR hB g0 g1 kM1 kR1 hB1 g01 lM1 lR1 o2 kA gA g12
  generalize w1.heap.size = G at *
  go_wp2_with (refine ld_ri rfl (.tmp 7) rfl _ rfl rfl kG (by rfl) ?_)
  refine (hWt.out _ hB2).mono ?_
  rintro e w3 ⟨rfl, g3⟩
  have kM3 := kM2.grew g3
  have kR3 := kR2.grew g3
  have kG3 := kG.grew g3
  have hB3 := hB2.grew g3
  have g03 := g02.trans g3
  clear kM2 kR2 kG hB2 g02 g3
  have y0 := kM3.cell 0
  go_wp2_with (refine ld_ri rfl (.tmp 7) rfl _ rfl rfl kG3 (by rfl) ?_)
  refine (hNx.out _ hB3 (HM.out.grew g03)).mono ?_
  rintro e w4 ⟨rfl, hB4, t4⟩
  have lB3 := hB3.lt
  have lM3 := kM3.lt
  have lR3 := kR3.lt
  have kM4 := kM3.trn t4 (by omega)
  have kR4 := kR3.trn t4 (by omega)
  have kG4 := kG3.trn t4 (by omega)
  have HM4 := Lib.hid ((HM.out.grew g03).trn hB3 t4)
  have T4 := (Trn.of_grew g03).trans t4
  have s4 := t4.size
  have lG3 := kG3.lt
  clear y0 kM3 kR3 kG3 hB3 t4 HM
  go_upto_region 5 with (first | (refine al_ds rfl rfl ?_; intro wa kA gA) | (refine st_ds rfl (.tmp 8) (.tmp 23) rfl rfl ds H16.out kA rfl (by rfl) (by rfl) ?_; intro w5 kD o5))
  have g45 : Grew w4 w5 := o5.grew gA (Nat.le_refl _)
  have kM5 := kM4.grew g45
  have kR5 := kR4.grew g45
  have kG5 := kG4.grew g45
  have hB5 := hB4.grew g45
  have HM5 := Lib.hid (HM4.out.grew g45)
  have T5 := T4.trans (Trn.of_grew g45)
  have nD : M < w4.heap.size ∧ R < w4.heap.size ∧ G < w4.heap.size ∧ p < w4.heap.size := ⟨by omega, by omega, by omega, by omega⟩
  clear kM4 kR4 kG4 hB4 HM4 T4 g45 o5 g03 kA gA
  generalize w4.heap.size = D at *
  go_upto_region 7 with fail
  go_wp2_with (refine ld_ds rfl (.tmp 8) rfl _ rfl H16.out kD (by rfl) ?_)
  refine (hOn.out _).mono ?_
  rintro e w6 ⟨rfl, g6⟩
  have kM6 := kM5.grew g6
  have kR6 := kR5.grew g6
  have kG6 := kG5.grew g6
  have kD6 := kD.grew g6
  have hB6 := hB5.grew g6
  have HM6 := Lib.hid (HM5.out.grew g6)
  have T6 := T5.trans (Trn.of_grew g6)
  clear kM5 kR5 kG5 kD hB5 HM5 T5 g6
  go_upto_region 9 with fail
  refine wp_region_held_drew (S := fun w' => Grew w6 w') (by kernel_rfl) ((Grew.refl w6).drew1) (fun hHeld => ?_)
  replace hHeld : Grew w6 w6.drew := hHeld
  generalize w6.drew = wq0 at *
  refine wpAnyH_take (i := 0) (v := ?_) rfl (by kernel_rfl) (by kernel_rfl) (by kernel_rfl) (fun _ _ _ h => h) (Or.inl ⟨by rfl, ?_⟩) hHeld ?_
  rotate_left
  · intro wq hSw
    replace hSw : Grew w6 wq := hSw
    have y0 := (kM6.grew hSw).cell 0
    go_simp
    try with_reducible rfl
  try simp only [List.getElem_toArray, List.getElem_cons_succ, List.getElem_cons_zero, Act.put, List.setIfInBounds_toArray, List.set_cons_zero, List.set_cons_succ]
  refine wpAnyH_take (i := 1) (v := (.agg (dsA ds))) rfl (by kernel_rfl) (by kernel_rfl) (by kernel_rfl) (fun _ _ _ h => h) (yl_ds H16.out rfl (by rfl) (by rfl) fun _ h => kD6.grew h) hHeld ?_
  try simp only [List.getElem_toArray, List.getElem_cons_succ, List.getElem_cons_zero, Act.put, List.setIfInBounds_toArray, List.set_cons_zero, List.set_cons_succ]
  refine wpAnyH_take (i := 3) (v := (.agg (dsA ds))) rfl (by kernel_rfl) (by kernel_rfl) (by kernel_rfl) (fun _ _ _ h => h) (yl_ds H16.out rfl (by rfl) (by rfl) fun _ h => kD6.grew h) hHeld ?_
  try simp only [List.getElem_toArray, List.getElem_cons_succ, List.getElem_cons_zero, Act.put, List.setIfInBounds_toArray, List.set_cons_zero, List.set_cons_succ]
  refine wpAnyH_ready (rs := [2]) (by kernel_rfl) (by simp) ?_
  refine AllReadyH.cons rfl (fun K hK => ?_) AllReadyH.nil
  go_simp
  refine Calls.mono (hAd.out _) ?_
  rintro e w7 ⟨rfl, g7⟩
  refine hK.out _ _ (hHeld.trans g7) (fun hHeld => ?_)
  clear hK K
  try simp only [List.getElem_toArray, List.getElem_cons_succ, List.getElem_cons_zero, Act.put, List.setIfInBounds_toArray, List.set_cons_zero, List.set_cons_succ]
  refine wpAnyH_ready (rs := [4]) (by kernel_rfl) (by simp) ?_
  refine AllReadyH.cons rfl (fun K hK => ?_) AllReadyH.nil
  go_simp
  refine Calls.mono (hLn.out _) ?_
  rintro e w7 ⟨rfl, g7⟩
  refine hK.out _ _ (hHeld.trans g7) (fun hHeld => ?_)
  clear hK K
  try simp only [List.getElem_toArray, List.getElem_cons_succ, List.getElem_cons_zero, Act.put, List.setIfInBounds_toArray, List.set_cons_zero, List.set_cons_succ]
  refine wpAnyH_ready (rs := [5]) (by kernel_rfl) (by simp) ?_
  refine AllReadyH.cons rfl (fun K hK => ?_) AllReadyH.nil
  go_simp
  refine Calls.mono (hBy.out _ (HM6.out.grew hHeld)) ?_
  rintro e w8 ⟨u, rfl, hu, g8⟩
  obtain ⟨b2, m2, rfl, q1, q2⟩ := hu.shape
  have HU := Lib.hid hu
  clear q1 q2 hu
  refine hK.out _ _ (hHeld.trans g8) (fun hHeld => ?_)
  clear hK K
  try simp only [List.getElem_toArray, List.getElem_cons_succ, List.getElem_cons_zero, Act.put, List.setIfInBounds_toArray, List.set_cons_zero, List.set_cons_succ]
  refine wpAnyH_take (i := 6) (v := ?_) rfl (by kernel_rfl) (by kernel_rfl) (by kernel_rfl) (fun _ _ _ h => h) (Or.inl ⟨by rfl, ?_⟩) hHeld ?_
  rotate_left
  · intro wq hSw
    replace hSw : Grew w6 wq := hSw
    go_simp
    try with_reducible rfl
  try simp only [List.getElem_toArray, List.getElem_cons_succ, List.getElem_cons_zero, Act.put, List.setIfInBounds_toArray, List.set_cons_zero, List.set_cons_succ]
  refine wpAnyH_take (i := 7) (v := ?_) rfl (by kernel_rfl) (by kernel_rfl) (by kernel_rfl) (fun _ _ _ h => h) (Or.inl ⟨by rfl, ?_⟩) hHeld ?_
  rotate_left
  · intro wq hSw
    replace hSw : Grew w6 wq := hSw
    go_simp
    try with_reducible rfl
  try simp only [List.getElem_toArray, List.getElem_cons_succ, List.getElem_cons_zero, Act.put, List.setIfInBounds_toArray, List.set_cons_zero, List.set_cons_succ]
  refine wpAnyH_take (i := 8) (v := ?_) rfl (by kernel_rfl) (by kernel_rfl) (by kernel_rfl) (fun _ _ _ h => h) (Or.inl ⟨by rfl, ?_⟩) hHeld ?_
  rotate_left
  · intro wq hSw
    replace hSw : Grew w6 wq := hSw
    go_simp
    try with_reducible rfl
  try simp only [List.getElem_toArray, List.getElem_cons_succ, List.getElem_cons_zero, Act.put, List.setIfInBounds_toArray, List.set_cons_zero, List.set_cons_succ]
  refine wpAnyH_take (i := 9) (v := ?_) rfl (by kernel_rfl) (by kernel_rfl) (by kernel_rfl) (fun _ _ _ h => h) (Or.inl ⟨by rfl, ?_⟩) hHeld ?_
  rotate_left
  · intro wq hSw
    replace hSw : Grew w6 wq := hSw
    go_simp
    try with_reducible rfl
  try simp only [List.getElem_toArray, List.getElem_cons_succ, List.getElem_cons_zero, Act.put, List.setIfInBounds_toArray, List.set_cons_zero, List.set_cons_succ]
  refine wpAnyH_take (i := 10) (v := ?_) rfl (by kernel_rfl) (by kernel_rfl) (by kernel_rfl) (fun _ _ _ h => h) (Or.inl ⟨by rfl, ?_⟩) hHeld ?_
  rotate_left
  · intro wq hSw
    replace hSw : Grew w6 wq := hSw
    go_simp
    try with_reducible rfl
  try simp only [List.getElem_toArray, List.getElem_cons_succ, List.getElem_cons_zero, Act.put, List.setIfInBounds_toArray, List.set_cons_zero, List.set_cons_succ]
  refine wpAnyH_done (by kernel_rfl) ?_ _
  try simp only [List.getElem_toArray, List.getElem_cons_succ, List.getElem_cons_zero, Act.put, List.setIfInBounds_toArray, List.set_cons_zero, List.set_cons_succ]
  have kM9 := kM6.grew hHeld
  have kR9 := kR6.grew hHeld
  have kG9 := kG6.grew hHeld
  have kD9 := kD6.grew hHeld
  have hB9 := hB6.grew hHeld
  have HM9 := Lib.hid (HM6.out.grew hHeld)
  have T9 := T6.trans (Trn.of_grew hHeld)
  clear kM6 kR6 kG6 kD6 hB6 HM6 T6 hHeld
  generalize w8 = w9 at *
  go_upto_region 10 with fail
  go_wp2_with fail
  refine (hIf.out _).mono ?_
  rintro e w8 ⟨rfl, rfl⟩
  go_upto_region 11 with fail
  go_wp2_with fail
  refine (hFl.out _ hB9).mono ?_
  rintro e wv ⟨rfl, hBv, tf⟩
  have lp := hB9.lt
  have lM9 := kM9.lt
  have kMv := kM9.trn tf (by omega)
  have kRv := kR9.trn tf (by omega)
  have kGv := kG9.trn tf (by omega)
  have kDv := kD9.trn tf (by omega)
  have HMv := Lib.hid (HM9.out.trn hB9 tf)
  have Tv := T9.trans tf
  clear kM9 kR9 kG9 kD9 hB9 HM9 T9 tf
  have y0 := kMv.cell 0
  go_wp2_with (first | (refine ld_ri rfl (.tmp 7) rfl _ rfl rfl kGv (by rfl) ?_) | (refine ld_ds rfl (.tmp 8) rfl _ rfl H16.out kDv (by rfl) ?_))
  refine (hDn.out _ hBv HMv.out).mono ?_
  rintro e wd ⟨a1, n1, m1, rfl, HY, hBd, td⟩
  have kRd := kRv.trn td (by have := hBv.lt; omega)
  have z0 := kRd.cell 0
  have f0 := kRd.free 0
  clear y0
  go_wp2_with fail
  have hset := (kRd.set (o := 0) (.slice a1 n1 m1)).cell 0
  have HYz := Lib.hid (HY.out.store kRd (.slice a1 n1 m1))
  have tz : Trn p w _ := (Tv.trans td).only (Only.set wd R 0 (.slice a1 n1 m1)) LR.out
  have hBz := hBd.other (c := R) (o := 0) (by omega) (.slice a1 n1 m1)
  exact bodyPost_ret (v := .tuple #[.agg #[.slice a1 n1 m1], .slice none 0 0, .bool true]) (by simp [results, Try.results36, go_sem, hset]) rfl ⟨_, _, _, _, _, _, rfl, HYz, Lib.hid (Buf.nil _), hBz, tz⟩

set_option maxHeartbeats 2000000 in
theorem send_good {c : Nat → Int} {p : Nat} {w : World} {a : Option Addr} {n m : Nat} {xs : List Int} (hB : Blk w p (rgA c) 80) (hM : Buf w (.slice a n m) xs) (hl : xs.length ≤ 140737488355328) (hc : ROk c) (hw : waitst c = true) (hin : insideV xs.length (c 3 + 16 * c 5) 16 = true) {ds : List Int} (hds : bytesV xs (c 3 + 16 * c 5) 16 = ds) (hown : ownB ds = true) (hi : insideV xs.length (adrV ds) (lenV ds) = true) (hfb : frameB (lenV ds) = true) :
    Calls Try.prog 36 #[.pointer (some ⟨p, 0, none⟩), .agg #[.slice a n m]] w fun e w' => ∃ a1 n1 m1 a2 n2 m2, e = .returned (.tuple #[.agg #[.slice a1 n1 m1], .slice a2 n2 m2, .bool true]) ∧ Hid (Buf w' (.slice a1 n1 m1) (writeV xs (c 3 + 16 * c 5 + 10) 4 (bothV ds 1))) ∧ Hid (Buf w' (.slice a2 n2 m2) (bytesV xs (adrV ds) (lenV ds))) ∧ Blk w' p (rgA (headt (upd c 1 (orB 1 (c 1))))) 80 ∧ Trn p w w' := by
  have hp := hB.lt
  have HM := Lib.hid hM
  have HXO := Lib.hid hM.ok
  have hWt := Lib.hid (fun (w : World) (h : Blk w p (rgA c) 80) => waits_t h hc.r0.1 hc.r0.2)
  have hOw := Lib.hid (fun (w : World) (h : Buf w (.slice a n m) xs) => ownRam_c hl h)
  rw [hw] at hWt
  have hok : AreBytes (bytesV xs (c 3 + 16 * c 5) 16) := bytesV_ok hM.ok _ _
  have h16 := bytesV_16 hin
  have hNx := Lib.hid (fun (w : World) (h : Blk w p (rgA c) 80) (h2 : Buf w (.slice a n m) xs) => next_t_yes h h2 hl hc.r3.1 hc.r3.2 hc.r5.1 (by have := hc.r4; have := hc.r5; omega) hin)
  rw [hds] at hok h16 hNx
  have H16 := Lib.hid h16
  have hOn := Lib.hid (owned_c hok h16)
  unfold ownB at hown
  rw [hown] at hOn
  have hpl := parts_lt hok h16
  have hAd := Lib.hid (address_c hok h16)
  have hLn := Lib.hid (length_c hok h16)
  change Hid (∀ w, Calls _ _ _ w fun e w' => e = .returned (.int .u64 (adrV ds)) ∧ Grew w w') at hAd
  change Hid (∀ w, Calls _ _ _ w fun e w' => e = .returned (.int .i64 (lenV ds)) ∧ Grew w w') at hLn
  have hBy := Lib.hid (fun (w : World) (h : Buf w (.slice a n m) xs) => bytes_c (adrV ds) (lenV ds) hpl.1.1 hpl.1.2 (by omega) (by omega) w h hl)
  rw [hi] at hBy
  have hbo := bothV_lt hok h16 1 (by decide) (by decide)
  have hDn := Lib.hid (fun (w : World) (h : Blk w p (rgA (upd c 1 (orB 1 (c 1)))) 80) (h2 : Buf w (.slice a n m) xs) => done_t 1 (by decide) (by decide) h h2 hl hok h16 (ROk.cause hc (.inl rfl)).r3.1 (ROk.cause hc (.inl rfl)).r3.2 (ROk.cause hc (.inl rfl)).r5.1 (by have := (ROk.cause hc (.inl rfl)).r4; have := (ROk.cause hc (.inl rfl)).r5; omega) (ROk.cause hc (.inl rfl)).r4.1 (ROk.cause hc (.inl rfl)).r4.2 hbo.1 hbo.2)
  rw [show (upd c 1 (orB 1 (c 1))) 3 = c 3 from rfl, show (upd c 1 (orB 1 (c 1))) 5 = c 5 from rfl] at hDn
  have hor := or_u32_1 hc.r1.1 hc.r1.2
  have hfl := bytesV_len hi
  have hIf := isFrame_b ((bytesV xs (adrV ds) (lenV ds)).length : Int)
  rw [hfl, hfb, ← hfl] at hIf
  replace hIf := Lib.hid hIf
  clear hfl hfb
  generalize hFg : bytesV xs (adrV ds) (lenV ds) = F at *
  have HFg := Lib.hid hFg
  clear hM hl hc hw hin hok h16 hown hpl hbo hi hds hFg
  go_enter Try.func36, Try.ntmps36
  go_upto_region 1 with fail
  have kM : Blk ((w.alloc (.cells #[.slice a n m] 27)).alloc (.cells #[.slice none 0 0] 27)) w.heap.size #[.slice a n m] 27 := (Blk.new w #[.slice a n m] 27 _ rfl).alloc (.cells #[.slice none 0 0] 27)
  have kR : Blk ((w.alloc (.cells #[.slice a n m] 27)).alloc (.cells #[.slice none 0 0] 27)) (w.heap.size + 1) #[.slice none 0 0] 27 := Blk.new (w.alloc (.cells #[.slice a n m] 27)) #[.slice none 0 0] 27 _ (by simp)
  have g0 : Grew w ((w.alloc (.cells #[.slice a n m] 27)).alloc (.cells #[.slice none 0 0] 27)) := ((Grew.refl w).alloc (.cells #[.slice a n m] 27)).alloc (.cells #[.slice none 0 0] 27)
  replace hB := ((hB).alloc (.cells #[.slice a n m] 27)).alloc (.cells #[.slice none 0 0] 27)
  generalize ((w.alloc (.cells #[.slice a n m] 27)).alloc (.cells #[.slice none 0 0] 27)) = w0 at *
  have lM : w.heap.size ≤ w.heap.size := by omega
  have lR : w.heap.size ≤ (w.heap.size + 1) := by omega
  have nMR : w.heap.size ≠ (w.heap.size + 1) := by omega
  have nRM : (w.heap.size + 1) ≠ w.heap.size := by omega
  generalize (w.heap.size + 1) = R at *
  generalize hZ : w.heap.size = M at *
  have HZ := Lib.hid hZ
  clear hZ
  have LM : Hid (w.heap.size ≤ M) := Lib.hid (by rw [HZ.out]; exact lM)
  have LR : Hid (w.heap.size ≤ R) := Lib.hid (by rw [HZ.out]; exact lR)
  have hpM : p < M := hp
  go_wp2_with fail
  refine (sending_c _).mono ?_
  rintro e w1 ⟨rfl, g1⟩
  have kM1 := kM.grew g1
  have kR1 := kR.grew g1
  have hB1 := hB.grew g1
  have g01 := g0.trans g1
  have lM1 := kM1.lt
  have lR1 := kR1.lt
  go_upto_region 2 with (first | (refine al_ri rfl rfl ?_; intro wa kA gA) | (refine st_ri rfl (.tmp 7) (.tmp 11) rfl rfl rgVt rfl rgVt_one kA rfl (by rfl) (by rfl) ?_; intro w2 kG o2))
  have g12 : Grew w1 w2 := o2.grew gA (Nat.le_refl _)
  have kM2 := kM1.grew g12
  have kR2 := kR1.grew g12
  have hB2 := hB1.grew g12
  have g02 : Grew w w2 := g01.trans g12
  have lG : M < w1.heap.size ∧ R < w1.heap.size := ⟨lM1, lR1⟩
  clear kM kR hB g0 g1 kM1 kR1 hB1 g01 lM1 lR1 o2 kA gA g12
  generalize w1.heap.size = G at *
  go_wp2_with (refine ld_ri rfl (.tmp 7) rfl _ rfl rfl kG (by rfl) ?_)
  refine (hWt.out _ hB2).mono ?_
  rintro e w3 ⟨rfl, g3⟩
  have kM3 := kM2.grew g3
  have kR3 := kR2.grew g3
  have kG3 := kG.grew g3
  have hB3 := hB2.grew g3
  have g03 := g02.trans g3
  clear kM2 kR2 kG hB2 g02 g3
  have y0 := kM3.cell 0
  go_wp2_with (refine ld_ri rfl (.tmp 7) rfl _ rfl rfl kG3 (by rfl) ?_)
  refine (hNx.out _ hB3 (HM.out.grew g03)).mono ?_
  rintro e w4 ⟨rfl, hB4, t4⟩
  have lB3 := hB3.lt
  have lM3 := kM3.lt
  have lR3 := kR3.lt
  have kM4 := kM3.trn t4 (by omega)
  have kR4 := kR3.trn t4 (by omega)
  have kG4 := kG3.trn t4 (by omega)
  have HM4 := Lib.hid ((HM.out.grew g03).trn hB3 t4)
  have T4 := (Trn.of_grew g03).trans t4
  have s4 := t4.size
  have lG3 := kG3.lt
  clear y0 kM3 kR3 kG3 hB3 t4 HM
  go_upto_region 5 with (first | (refine al_ds rfl rfl ?_; intro wa kA gA) | (refine st_ds rfl (.tmp 8) (.tmp 23) rfl rfl ds H16.out kA rfl (by rfl) (by rfl) ?_; intro w5 kD o5))
  have g45 : Grew w4 w5 := o5.grew gA (Nat.le_refl _)
  have kM5 := kM4.grew g45
  have kR5 := kR4.grew g45
  have kG5 := kG4.grew g45
  have hB5 := hB4.grew g45
  have HM5 := Lib.hid (HM4.out.grew g45)
  have T5 := T4.trans (Trn.of_grew g45)
  have nD : M < w4.heap.size ∧ R < w4.heap.size ∧ G < w4.heap.size ∧ p < w4.heap.size := ⟨by omega, by omega, by omega, by omega⟩
  clear kM4 kR4 kG4 hB4 HM4 T4 g45 o5 g03 kA gA
  generalize w4.heap.size = D at *
  go_upto_region 7 with fail
  go_wp2_with (refine ld_ds rfl (.tmp 8) rfl _ rfl H16.out kD (by rfl) ?_)
  refine (hOn.out _).mono ?_
  rintro e w6 ⟨rfl, g6⟩
  have kM6 := kM5.grew g6
  have kR6 := kR5.grew g6
  have kG6 := kG5.grew g6
  have kD6 := kD.grew g6
  have hB6 := hB5.grew g6
  have HM6 := Lib.hid (HM5.out.grew g6)
  have T6 := T5.trans (Trn.of_grew g6)
  clear kM5 kR5 kG5 kD hB5 HM5 T5 g6
  go_upto_region 9 with fail
  refine wp_region_held_drew (S := fun w' => Grew w6 w') (by kernel_rfl) ((Grew.refl w6).drew1) (fun hHeld => ?_)
  replace hHeld : Grew w6 w6.drew := hHeld
  generalize w6.drew = wq0 at *
  refine wpAnyH_take (i := 0) (v := ?_) rfl (by kernel_rfl) (by kernel_rfl) (by kernel_rfl) (fun _ _ _ h => h) (Or.inl ⟨by rfl, ?_⟩) hHeld ?_
  rotate_left
  · intro wq hSw
    replace hSw : Grew w6 wq := hSw
    have y0 := (kM6.grew hSw).cell 0
    go_simp
    try with_reducible rfl
  try simp only [List.getElem_toArray, List.getElem_cons_succ, List.getElem_cons_zero, Act.put, List.setIfInBounds_toArray, List.set_cons_zero, List.set_cons_succ]
  refine wpAnyH_take (i := 1) (v := (.agg (dsA ds))) rfl (by kernel_rfl) (by kernel_rfl) (by kernel_rfl) (fun _ _ _ h => h) (yl_ds H16.out rfl (by rfl) (by rfl) fun _ h => kD6.grew h) hHeld ?_
  try simp only [List.getElem_toArray, List.getElem_cons_succ, List.getElem_cons_zero, Act.put, List.setIfInBounds_toArray, List.set_cons_zero, List.set_cons_succ]
  refine wpAnyH_take (i := 3) (v := (.agg (dsA ds))) rfl (by kernel_rfl) (by kernel_rfl) (by kernel_rfl) (fun _ _ _ h => h) (yl_ds H16.out rfl (by rfl) (by rfl) fun _ h => kD6.grew h) hHeld ?_
  try simp only [List.getElem_toArray, List.getElem_cons_succ, List.getElem_cons_zero, Act.put, List.setIfInBounds_toArray, List.set_cons_zero, List.set_cons_succ]
  refine wpAnyH_ready (rs := [2]) (by kernel_rfl) (by simp) ?_
  refine AllReadyH.cons rfl (fun K hK => ?_) AllReadyH.nil
  go_simp
  refine Calls.mono (hAd.out _) ?_
  rintro e w7 ⟨rfl, g7⟩
  refine hK.out _ _ (hHeld.trans g7) (fun hHeld => ?_)
  clear hK K
  try simp only [List.getElem_toArray, List.getElem_cons_succ, List.getElem_cons_zero, Act.put, List.setIfInBounds_toArray, List.set_cons_zero, List.set_cons_succ]
  refine wpAnyH_ready (rs := [4]) (by kernel_rfl) (by simp) ?_
  refine AllReadyH.cons rfl (fun K hK => ?_) AllReadyH.nil
  go_simp
  refine Calls.mono (hLn.out _) ?_
  rintro e w7 ⟨rfl, g7⟩
  refine hK.out _ _ (hHeld.trans g7) (fun hHeld => ?_)
  clear hK K
  try simp only [List.getElem_toArray, List.getElem_cons_succ, List.getElem_cons_zero, Act.put, List.setIfInBounds_toArray, List.set_cons_zero, List.set_cons_succ]
  refine wpAnyH_ready (rs := [5]) (by kernel_rfl) (by simp) ?_
  refine AllReadyH.cons rfl (fun K hK => ?_) AllReadyH.nil
  go_simp
  refine Calls.mono (hBy.out _ (HM6.out.grew hHeld)) ?_
  rintro e w8 ⟨u, rfl, hu, g8⟩
  obtain ⟨b2, m2, rfl, q1, q2⟩ := hu.shape
  have HU := Lib.hid hu
  clear q1 q2 hu
  refine hK.out _ _ (hHeld.trans g8) (fun hHeld => ?_)
  clear hK K
  try simp only [List.getElem_toArray, List.getElem_cons_succ, List.getElem_cons_zero, Act.put, List.setIfInBounds_toArray, List.set_cons_zero, List.set_cons_succ]
  refine wpAnyH_take (i := 6) (v := ?_) rfl (by kernel_rfl) (by kernel_rfl) (by kernel_rfl) (fun _ _ _ h => h) (Or.inl ⟨by rfl, ?_⟩) hHeld ?_
  rotate_left
  · intro wq hSw
    replace hSw : Grew w6 wq := hSw
    go_simp
    try with_reducible rfl
  try simp only [List.getElem_toArray, List.getElem_cons_succ, List.getElem_cons_zero, Act.put, List.setIfInBounds_toArray, List.set_cons_zero, List.set_cons_succ]
  refine wpAnyH_take (i := 7) (v := ?_) rfl (by kernel_rfl) (by kernel_rfl) (by kernel_rfl) (fun _ _ _ h => h) (Or.inl ⟨by rfl, ?_⟩) hHeld ?_
  rotate_left
  · intro wq hSw
    replace hSw : Grew w6 wq := hSw
    go_simp
    try with_reducible rfl
  try simp only [List.getElem_toArray, List.getElem_cons_succ, List.getElem_cons_zero, Act.put, List.setIfInBounds_toArray, List.set_cons_zero, List.set_cons_succ]
  refine wpAnyH_take (i := 8) (v := ?_) rfl (by kernel_rfl) (by kernel_rfl) (by kernel_rfl) (fun _ _ _ h => h) (Or.inl ⟨by rfl, ?_⟩) hHeld ?_
  rotate_left
  · intro wq hSw
    replace hSw : Grew w6 wq := hSw
    go_simp
    try with_reducible rfl
  try simp only [List.getElem_toArray, List.getElem_cons_succ, List.getElem_cons_zero, Act.put, List.setIfInBounds_toArray, List.set_cons_zero, List.set_cons_succ]
  refine wpAnyH_take (i := 9) (v := ?_) rfl (by kernel_rfl) (by kernel_rfl) (by kernel_rfl) (fun _ _ _ h => h) (Or.inl ⟨by rfl, ?_⟩) hHeld ?_
  rotate_left
  · intro wq hSw
    replace hSw : Grew w6 wq := hSw
    go_simp
    try with_reducible rfl
  try simp only [List.getElem_toArray, List.getElem_cons_succ, List.getElem_cons_zero, Act.put, List.setIfInBounds_toArray, List.set_cons_zero, List.set_cons_succ]
  refine wpAnyH_take (i := 10) (v := ?_) rfl (by kernel_rfl) (by kernel_rfl) (by kernel_rfl) (fun _ _ _ h => h) (Or.inl ⟨by rfl, ?_⟩) hHeld ?_
  rotate_left
  · intro wq hSw
    replace hSw : Grew w6 wq := hSw
    go_simp
    try with_reducible rfl
  try simp only [List.getElem_toArray, List.getElem_cons_succ, List.getElem_cons_zero, Act.put, List.setIfInBounds_toArray, List.set_cons_zero, List.set_cons_succ]
  refine wpAnyH_done (by kernel_rfl) ?_ _
  try simp only [List.getElem_toArray, List.getElem_cons_succ, List.getElem_cons_zero, Act.put, List.setIfInBounds_toArray, List.set_cons_zero, List.set_cons_succ]
  have kM9 := kM6.grew hHeld
  have kR9 := kR6.grew hHeld
  have kG9 := kG6.grew hHeld
  have kD9 := kD6.grew hHeld
  have hB9 := hB6.grew hHeld
  have HM9 := Lib.hid (HM6.out.grew hHeld)
  have T9 := T6.trans (Trn.of_grew hHeld)
  clear kM6 kR6 kG6 kD6 hB6 HM6 T6 hHeld
  generalize w8 = w9 at *
  go_upto_region 10 with fail
  go_wp2_with fail
  refine (hIf.out _).mono ?_
  rintro e w8 ⟨rfl, rfl⟩
  go_upto_region 13 with fail
  have z0 := fun z : Over w9 => hB9.rgO 1 (by decide) z
  refine region_over_tail 7 (by kernel_rfl) (by kernel_rfl) ?_
  simp only [List.take_succ_cons, List.take_zero, List.drop_succ_cons, List.drop_zero]
  repeat (first | go_big_quiet_step (fail) | quiet_step (fail))
  refine wpQuiet_nil ?_
  intro z
  have gz := z.g
  have kMv' := kM9.grew gz
  have kRv' := kR9.grew gz
  have kGv' := kG9.grew gz
  have kDv' := kD9.grew gz
  have hBv' := hB9.grew gz
  have HMv' := Lib.hid (HM9.out.grew gz)
  have HFv' := Lib.hid (HU.out.grew gz)
  have Tv' := T9.trans (Trn.of_grew gz)
  clear z0 kM9 kR9 kG9 kD9 hB9 HM9 HU T9 gz
  generalize z.w = w8 at *
  have c0 := hBv'.rgC 1 (by decide)
  have f0 := hBv'.free 1
  have lp := hBv'.lt
  have lM9 := kMv'.lt
  go_upto_region 14 with fail
  have o3 := Only.set w8 p 1 (.int .u32 (orB 1 (c 1)))
  have hBv := hBv'.rg (by decide : 1 < 15) (orB 1 (c 1))
  have kMv := kMv'.only o3 (by omega)
  have kRv := kRv'.only o3 (by omega)
  have kGv := kGv'.only o3 (by omega)
  have kDv := kDv'.only o3 (by omega)
  have HMv := Lib.hid (HMv'.out.only o3 hBv' (nb_rg c))
  have HFv := Lib.hid (HFv'.out.only o3 hBv' (nb_rg c))
  have Tv := Tv'.trans o3.trn
  clear c0 f0 hBv' kMv' kRv' kGv' kDv' HMv' HFv' Tv' o3
  generalize (w8.setCell ⟨p, 1, none⟩ (.int .u32 (orB 1 (c 1)))) = wv at *
  have y0 := kMv.cell 0
  go_wp2_with (first | (refine ld_ri rfl (.tmp 7) rfl _ rfl rfl kGv (by rfl) ?_) | (refine ld_ds rfl (.tmp 8) rfl _ rfl H16.out kDv (by rfl) ?_))
  refine (hDn.out _ hBv HMv.out).mono ?_
  rintro e wd ⟨a1, n1, m1, rfl, HY, hBd, td⟩
  have kRd := kRv.trn td (by have := hBv.lt; omega)
  have z0 := kRd.cell 0
  have f0 := kRd.free 0
  clear y0
  have HFd := Lib.hid (HFv.out.trn hBv td)
  go_wp2_with fail
  have hset := (kRd.set (o := 0) (.slice a1 n1 m1)).cell 0
  have HYz := Lib.hid (HY.out.store kRd (.slice a1 n1 m1))
  have HFz := Lib.hid (HFd.out.store kRd (.slice a1 n1 m1))
  have tz : Trn p w _ := (Tv.trans td).only (Only.set wd R 0 (.slice a1 n1 m1)) LR.out
  have hBz := hBd.other (c := R) (o := 0) (by omega) (.slice a1 n1 m1)
  exact bodyPost_ret (v := .tuple #[.agg #[.slice a1 n1 m1], .slice b2 F.length m2, .bool true]) (by simp [results, Try.results36, go_sem, hset]) rfl ⟨_, _, _, _, _, _, rfl, HYz, HFz, hBz, tz⟩

end Go.Proofs.Ytoehdhhodidehaa
