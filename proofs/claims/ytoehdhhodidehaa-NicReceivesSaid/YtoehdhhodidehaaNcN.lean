/-
  Package nic: the cases of receive in which a frame is dropped.
-/
import Derived.Test.YtoehdhhodidehaaRows
import Derived.Test.YtoehdhhodidehaaNcM
import Derived.WalkKit
import Derived.Outline
import Derived.Handy
import Derived.StillTailTactics
import Derived.Deep.QuietTactic
import Derived.BigQuiet
import Derived.Deep.DeepCutAuto
import Derived.Deep.RegionHeld3
import Derived.Great.BuildSlice
import Derived.Deep.WholeRow
import Derived.Lib.SliceRun
import Derived.BigFrame
set_option maxRecDepth 4000
set_option linter.unusedVariables false
set_option linter.unusedSimpArgs false
namespace Go.Proofs.Ytoehdhhodidehaa
open Go.RowKit

set_option maxHeartbeats 2000000 in
theorem recv_idle1 {c : Nat → Int} {p : Nat} {w : World} {a : Option Addr} {n m : Nat} {xs : List Int} {fa : Option Addr} {fn fm : Nat} {fs : List Int} (hB : Blk w p (rgA c) 80) (hM : Buf w (.slice a n m) xs) (hl : xs.length ≤ 140737488355328) (hF : Buf w (.slice fa fn fm) fs) (hc : ROk c) (ht : takesB c fs = false) :
    Calls Try.prog 47 #[.pointer (some ⟨p, 0, none⟩), .agg #[.slice a n m], .slice fa fn fm] w fun e w' => ∃ a1 n1 m1, e = .returned (.tuple #[.agg #[.slice a1 n1 m1], .bool false]) ∧ Hid (Buf w' (.slice a1 n1 m1) xs) ∧ Blk w' p (rgA (dropC c)) 80 ∧ Trn p w w' := by
  have hp := hB.lt
  have HM := Lib.hid hM
  have HF := Lib.hid hF
  have HXO := Lib.hid hM.ok
  have hTk := Lib.hid (fun (w : World) (h : Blk w p (rgA c) 80) (h2 : Buf w (.slice fa fn fm) fs) => takes_c h hc.rg hc.r0.2 h2)
  rw [ht] at hTk
  have hOw := Lib.hid (fun (w : World) (h : Buf w (.slice a n m) xs) => ownRam_c hl h)
  have hDr := Lib.hid (fun (w : World) (h : Blk w p (rgA c) 80) => drop_c h (hc).r11.1 (hc).r11.2 (hc).r1.1 (hc).r1.2)
  clear hM hl hc ht hF
  go_enter Try.func47, Try.ntmps47
  go_upto_region 1 with fail
  have kM : Blk ((w.alloc (.cells #[.slice a n m] 27)).alloc (.cells #[.slice none 0 0] 27)) w.heap.size #[.slice a n m] 27 := (Blk.new w #[.slice a n m] 27 _ rfl).alloc (.cells #[.slice none 0 0] 27)
  have kR : Blk ((w.alloc (.cells #[.slice a n m] 27)).alloc (.cells #[.slice none 0 0] 27)) (w.heap.size + 1) #[.slice none 0 0] 27 := Blk.new (w.alloc (.cells #[.slice a n m] 27)) #[.slice none 0 0] 27 _ (by simp)
  have g0 : Grew w ((w.alloc (.cells #[.slice a n m] 27)).alloc (.cells #[.slice none 0 0] 27)) := ((Grew.refl w).alloc (.cells #[.slice a n m] 27)).alloc (.cells #[.slice none 0 0] 27)
  replace hB := ((hB).alloc (.cells #[.slice a n m] 27)).alloc (.cells #[.slice none 0 0] 27)
  generalize ((w.alloc (.cells #[.slice a n m] 27)).alloc (.cells #[.slice none 0 0] 27)) = w0 at *
  have lM : w.heap.size ≤ w.heap.size := by omega
  have lR : w.heap.size ≤ (w.heap.size + 1) := by omega
  have nMR : w.heap.size ≠ (w.heap.size + 1) := by omega
  have nRM : (w.heap.size + 1) ≠ w.heap.size := by omega
  generalize (w.heap.size + 1) = R at *
  generalize hZ : w.heap.size = M at *
  have HZ := Lib.hid hZ
  clear hZ
  have LM : Hid (w.heap.size ≤ M) := Lib.hid (by rw [HZ.out]; exact lM)
  have LR : Hid (w.heap.size ≤ R) := Lib.hid (by rw [HZ.out]; exact lR)
  have hpM : p < M := hp
  go_wp2_with fail
  refine (receiving_c _).mono ?_
  rintro e w1 ⟨rfl, g1⟩
  have kM1 := kM.grew g1
  have kR1 := kR.grew g1
  have hB1 := hB.grew g1
  have g01 := g0.trans g1
  have lM1 := kM1.lt
  have lR1 := kR1.lt
  go_upto_region 2 with (first | (refine al_ri rfl rfl ?_; intro wa kA gA) | (refine st_ri rfl (.tmp 8) (.tmp 11) rfl rfl rgVr rfl rgVr_one kA rfl (by rfl) (by rfl) ?_; intro w2 kG o2))
  have g12 : Grew w1 w2 := o2.grew gA (Nat.le_refl _)
  have kM2 := kM1.grew g12
  have kR2 := kR1.grew g12
  have hB2 := hB1.grew g12
  have g02 : Grew w w2 := g01.trans g12
  have lG : M < w1.heap.size ∧ R < w1.heap.size := ⟨lM1, lR1⟩
  clear kM kR hB g0 g1 kM1 kR1 hB1 g01 lM1 lR1 o2 kA gA g12
  generalize w1.heap.size = G at *
  go_wp2_with fail
  refine (hTk.out _ hB2 (HF.out.grew g02)).mono ?_
  rintro e wt ⟨rfl, gt⟩
  replace kM2 := kM2.grew gt
  replace kR2 := kR2.grew gt
  replace kG := kG.grew gt
  replace hB2 := hB2.grew gt
  replace g02 := g02.trans gt
  clear gt
  have g3 := Grew.refl wt
  have kM3 := kM2.grew g3
  have kR3 := kR2.grew g3
  have kG3 := kG.grew g3
  have hB3 := hB2.grew g3
  have g03 := g02.trans g3
  clear kM2 kR2 kG hB2 g02 g3
  go_upto_region 3 with fail
  go_wp2_with fail
  refine (hDr.out _ hB3).mono ?_
  rintro e wv ⟨rfl, hBv, tv⟩
  have lp := hB3.lt
  have lm := kM3.lt
  have lr := kR3.lt
  have kMv := kM3.trn tv (by omega)
  have kRv := kR3.trn tv (by omega)
  have HMv := Lib.hid ((HM.out.grew g03).trn hB3 tv)
  have Tv : Trn p w wv := (Trn.of_grew g03).trans tv
  clear tv kM3 kR3 hB3
  have y0 := kMv.cell 0
  go_wp2_with fail
  refine (hOw.out _ HMv.out).mono ?_
  rintro e w8 ⟨b, k, rfl, HR, g8⟩
  have kR8 := kRv.grew g8
  have hB8 := hBv.grew g8
  have lR8 := kRv.lt
  have z0 := kR8.cell 0
  have f0 := kR8.free 0
  clear y0
  go_wp2_with fail
  have hset := (kR8.set (o := 0) (.slice b xs.length k)).cell 0
  have HR2 := Lib.hid ((HR.out.set (c := R) lR8 (o := 0) (.slice b xs.length k)).buf HXO.out)
  have tz : Trn p w _ := (Tv.trans (Trn.of_grew g8)).only (Only.set w8 R 0 (.slice b xs.length k)) LR.out
  have hBz := hB8.other (c := R) (o := 0) (by omega) (.slice b xs.length k)
  exact bodyPost_ret (v := .tuple #[.agg #[.slice b xs.length k], .bool false]) (by simp [results, Try.results47, go_sem, hset]) rfl ⟨_, _, _, rfl, HR2, hBz, tz⟩

set_option maxHeartbeats 2000000 in
theorem recv_idle2 {c : Nat → Int} {p : Nat} {w : World} {a : Option Addr} {n m : Nat} {xs : List Int} {fa : Option Addr} {fn fm : Nat} {fs : List Int} (hB : Blk w p (rgA c) 80) (hM : Buf w (.slice a n m) xs) (hl : xs.length ≤ 140737488355328) (hF : Buf w (.slice fa fn fm) fs) (hc : ROk c) (ht : takesB c fs = true) (hw : waitsr c = false) :
    Calls Try.prog 47 #[.pointer (some ⟨p, 0, none⟩), .agg #[.slice a n m], .slice fa fn fm] w fun e w' => ∃ a1 n1 m1, e = .returned (.tuple #[.agg #[.slice a1 n1 m1], .bool false]) ∧ Hid (Buf w' (.slice a1 n1 m1) xs) ∧ Blk w' p (rgA (dropC c)) 80 ∧ Trn p w w' := by
  have hp := hB.lt
  have HM := Lib.hid hM
  have HF := Lib.hid hF
  have HXO := Lib.hid hM.ok
  have hTk := Lib.hid (fun (w : World) (h : Blk w p (rgA c) 80) (h2 : Buf w (.slice fa fn fm) fs) => takes_c h hc.rg hc.r0.2 h2)
  rw [ht] at hTk
  have hOw := Lib.hid (fun (w : World) (h : Buf w (.slice a n m) xs) => ownRam_c hl h)
  have hWt := Lib.hid (fun (w : World) (h : Blk w p (rgA c) 80) => waits_r h hc.r0.1 hc.r0.2)
  rw [hw] at hWt
  have hDr := Lib.hid (fun (w : World) (h : Blk w p (rgA c) 80) => drop_c h (hc).r11.1 (hc).r11.2 (hc).r1.1 (hc).r1.2)
  clear hM hl hc ht hF hw
  go_enter Try.func47, Try.ntmps47
  go_upto_region 1 with fail
  have kM : Blk ((w.alloc (.cells #[.slice a n m] 27)).alloc (.cells #[.slice none 0 0] 27)) w.heap.size #[.slice a n m] 27 := (Blk.new w #[.slice a n m] 27 _ rfl).alloc (.cells #[.slice none 0 0] 27)
  have kR : Blk ((w.alloc (.cells #[.slice a n m] 27)).alloc (.cells #[.slice none 0 0] 27)) (w.heap.size + 1) #[.slice none 0 0] 27 := Blk.new (w.alloc (.cells #[.slice a n m] 27)) #[.slice none 0 0] 27 _ (by simp)
  have g0 : Grew w ((w.alloc (.cells #[.slice a n m] 27)).alloc (.cells #[.slice none 0 0] 27)) := ((Grew.refl w).alloc (.cells #[.slice a n m] 27)).alloc (.cells #[.slice none 0 0] 27)
  replace hB := ((hB).alloc (.cells #[.slice a n m] 27)).alloc (.cells #[.slice none 0 0] 27)
  generalize ((w.alloc (.cells #[.slice a n m] 27)).alloc (.cells #[.slice none 0 0] 27)) = w0 at *
  have lM : w.heap.size ≤ w.heap.size := by omega
  have lR : w.heap.size ≤ (w.heap.size + 1) := by omega
  have nMR : w.heap.size ≠ (w.heap.size + 1) := by omega
  have nRM : (w.heap.size + 1) ≠ w.heap.size := by omega
  generalize (w.heap.size + 1) = R at *
  generalize hZ : w.heap.size = M at *
  have HZ := Lib.hid hZ
  clear hZ
  have LM : Hid (w.heap.size ≤ M) := Lib.hid (by rw [HZ.out]; exact lM)
  have LR : Hid (w.heap.size ≤ R) := Lib.hid (by rw [HZ.out]; exact lR)
  have hpM : p < M := hp
  go_wp2_with fail
  refine (receiving_c _).mono ?_
  rintro e w1 ⟨rfl, g1⟩
  have kM1 := kM.grew g1
  have kR1 := kR.grew g1
  have hB1 := hB.grew g1
  have g01 := g0.trans g1
  have lM1 := kM1.lt
  have lR1 := kR1.lt
  go_upto_region 2 with (first | (refine al_ri rfl rfl ?_; intro wa kA gA) | (refine st_ri rfl (.tmp 8) (.tmp 11) rfl rfl rgVr rfl rgVr_one kA rfl (by rfl) (by rfl) ?_; intro w2 kG o2))
  have g12 : Grew w1 w2 := o2.grew gA (Nat.le_refl _)
  have kM2 := kM1.grew g12
  have kR2 := kR1.grew g12
  have hB2 := hB1.grew g12
  have g02 : Grew w w2 := g01.trans g12
  have lG : M < w1.heap.size ∧ R < w1.heap.size := ⟨lM1, lR1⟩
  clear kM kR hB g0 g1 kM1 kR1 hB1 g01 lM1 lR1 o2 kA gA g12
  generalize w1.heap.size = G at *
  go_wp2_with fail
  refine (hTk.out _ hB2 (HF.out.grew g02)).mono ?_
  rintro e wt ⟨rfl, gt⟩
  replace kM2 := kM2.grew gt
  replace kR2 := kR2.grew gt
  replace kG := kG.grew gt
  replace hB2 := hB2.grew gt
  replace g02 := g02.trans gt
  clear gt
  go_wp2_with (refine lw_ri (by rfl) (.tmp 8) rfl _ rfl rfl kG (by rfl) ?_)
  refine (hWt.out _ hB2).mono ?_
  rintro e w3 ⟨rfl, g3⟩
  have kM3 := kM2.grew g3
  have kR3 := kR2.grew g3
  have kG3 := kG.grew g3
  have hB3 := hB2.grew g3
  have g03 := g02.trans g3
  clear kM2 kR2 kG hB2 g02 g3
  go_upto_region 3 with fail
  go_wp2_with fail
  refine (hDr.out _ hB3).mono ?_
  rintro e wv ⟨rfl, hBv, tv⟩
  have lp := hB3.lt
  have lm := kM3.lt
  have lr := kR3.lt
  have kMv := kM3.trn tv (by omega)
  have kRv := kR3.trn tv (by omega)
  have HMv := Lib.hid ((HM.out.grew g03).trn hB3 tv)
  have Tv : Trn p w wv := (Trn.of_grew g03).trans tv
  clear tv kM3 kR3 hB3
  have y0 := kMv.cell 0
  go_wp2_with fail
  refine (hOw.out _ HMv.out).mono ?_
  rintro e w8 ⟨b, k, rfl, HR, g8⟩
  have kR8 := kRv.grew g8
  have hB8 := hBv.grew g8
  have lR8 := kRv.lt
  have z0 := kR8.cell 0
  have f0 := kR8.free 0
  clear y0
  go_wp2_with fail
  have hset := (kR8.set (o := 0) (.slice b xs.length k)).cell 0
  have HR2 := Lib.hid ((HR.out.set (c := R) lR8 (o := 0) (.slice b xs.length k)).buf HXO.out)
  have tz : Trn p w _ := (Tv.trans (Trn.of_grew g8)).only (Only.set w8 R 0 (.slice b xs.length k)) LR.out
  have hBz := hB8.other (c := R) (o := 0) (by omega) (.slice b xs.length k)
  exact bodyPost_ret (v := .tuple #[.agg #[.slice b xs.length k], .bool false]) (by simp [results, Try.results47, go_sem, hset]) rfl ⟨_, _, _, rfl, HR2, hBz, tz⟩

set_option maxHeartbeats 2000000 in
theorem recv_broke {c : Nat → Int} {p : Nat} {w : World} {a : Option Addr} {n m : Nat} {xs : List Int} {fa : Option Addr} {fn fm : Nat} {fs : List Int} (hB : Blk w p (rgA c) 80) (hM : Buf w (.slice a n m) xs) (hl : xs.length ≤ 140737488355328) (hF : Buf w (.slice fa fn fm) fs) (hc : ROk c) (ht : takesB c fs = true) (hw : waitsr c = true) (hin : insideV xs.length (c 7 + 16 * c 9) 16 = false) :
    Calls Try.prog 47 #[.pointer (some ⟨p, 0, none⟩), .agg #[.slice a n m], .slice fa fn fm] w fun e w' => ∃ a1 n1 m1, e = .returned (.tuple #[.agg #[.slice a1 n1 m1], .bool false]) ∧ Hid (Buf w' (.slice a1 n1 m1) xs) ∧ Blk w' p (rgA (dropC (broker c))) 80 ∧ Trn p w w' := by
  have hk : bitB 2 (c 0) = true := by unfold waitsr at hw; simp at hw; exact hw.1
  have hp := hB.lt
  have HM := Lib.hid hM
  have HF := Lib.hid hF
  have HXO := Lib.hid hM.ok
  have hTk := Lib.hid (fun (w : World) (h : Blk w p (rgA c) 80) (h2 : Buf w (.slice fa fn fm) fs) => takes_c h hc.rg hc.r0.2 h2)
  rw [ht] at hTk
  have hOw := Lib.hid (fun (w : World) (h : Buf w (.slice a n m) xs) => ownRam_c hl h)
  have hWt := Lib.hid (fun (w : World) (h : Blk w p (rgA c) 80) => waits_r h hc.r0.1 hc.r0.2)
  rw [hw] at hWt
  have hNx := Lib.hid (fun (w : World) (h : Blk w p (rgA c) 80) (h2 : Buf w (.slice a n m) xs) => next_r_no h h2 hl hc.r7.1 hc.r7.2 hc.r9.1 (by have := hc.r8; have := hc.r9; omega) hc.r0.1 hc.r0.2 hk hc.r12.1 hc.r12.2 hc.r1.1 hc.r1.2 hin)
  have hDr := Lib.hid (fun (w : World) (h : Blk w p (rgA (broker c)) 80) => drop_c h (ROk.broker hc hk).r11.1 (ROk.broker hc hk).r11.2 (ROk.broker hc hk).r1.1 (ROk.broker hc hk).r1.2)
  clear hM hl hc hw hin hk hF ht
  go_enter Try.func47, Try.ntmps47
  go_upto_region 1 with fail
  have kM : Blk ((w.alloc (.cells #[.slice a n m] 27)).alloc (.cells #[.slice none 0 0] 27)) w.heap.size #[.slice a n m] 27 := (Blk.new w #[.slice a n m] 27 _ rfl).alloc (.cells #[.slice none 0 0] 27)
  have kR : Blk ((w.alloc (.cells #[.slice a n m] 27)).alloc (.cells #[.slice none 0 0] 27)) (w.heap.size + 1) #[.slice none 0 0] 27 := Blk.new (w.alloc (.cells #[.slice a n m] 27)) #[.slice none 0 0] 27 _ (by simp)
  have g0 : Grew w ((w.alloc (.cells #[.slice a n m] 27)).alloc (.cells #[.slice none 0 0] 27)) := ((Grew.refl w).alloc (.cells #[.slice a n m] 27)).alloc (.cells #[.slice none 0 0] 27)
  replace hB := ((hB).alloc (.cells #[.slice a n m] 27)).alloc (.cells #[.slice none 0 0] 27)
  generalize ((w.alloc (.cells #[.slice a n m] 27)).alloc (.cells #[.slice none 0 0] 27)) = w0 at *
  have lM : w.heap.size ≤ w.heap.size := by omega
  have lR : w.heap.size ≤ (w.heap.size + 1) := by omega
  have nMR : w.heap.size ≠ (w.heap.size + 1) := by omega
  have nRM : (w.heap.size + 1) ≠ w.heap.size := by omega
  generalize (w.heap.size + 1) = R at *
  generalize hZ : w.heap.size = M at *
  have HZ := Lib.hid hZ
  clear hZ
  have LM : Hid (w.heap.size ≤ M) := Lib.hid (by rw [HZ.out]; exact lM)
  have LR : Hid (w.heap.size ≤ R) := Lib.hid (by rw [HZ.out]; exact lR)
  have hpM : p < M := hp
  go_wp2_with fail
  refine (receiving_c _).mono ?_
  rintro e w1 ⟨rfl, g1⟩
  have kM1 := kM.grew g1
  have kR1 := kR.grew g1
  have hB1 := hB.grew g1
  have g01 := g0.trans g1
  have lM1 := kM1.lt
  have lR1 := kR1.lt
  go_upto_region 2 with (first | (refine al_ri rfl rfl ?_; intro wa kA gA) | (refine st_ri rfl (.tmp 8) (.tmp 11) rfl rfl rgVr rfl rgVr_one kA rfl (by rfl) (by rfl) ?_; intro w2 kG o2))
  have g12 : Grew w1 w2 := o2.grew gA (Nat.le_refl _)
  have kM2 := kM1.grew g12
  have kR2 := kR1.grew g12
  have hB2 := hB1.grew g12
  have g02 : Grew w w2 := g01.trans g12
  have lG : M < w1.heap.size ∧ R < w1.heap.size := ⟨lM1, lR1⟩
  clear kM kR hB g0 g1 kM1 kR1 hB1 g01 lM1 lR1 o2 kA gA g12
  generalize w1.heap.size = G at *
  go_wp2_with fail
  refine (hTk.out _ hB2 (HF.out.grew g02)).mono ?_
  rintro e wt ⟨rfl, gt⟩
  replace kM2 := kM2.grew gt
  replace kR2 := kR2.grew gt
  replace kG := kG.grew gt
  replace hB2 := hB2.grew gt
  replace g02 := g02.trans gt
  clear gt
  go_wp2_with (refine lw_ri (by rfl) (.tmp 8) rfl _ rfl rfl kG (by rfl) ?_)
  refine (hWt.out _ hB2).mono ?_
  rintro e w3 ⟨rfl, g3⟩
  have kM3 := kM2.grew g3
  have kR3 := kR2.grew g3
  have kG3 := kG.grew g3
  have hB3 := hB2.grew g3
  have g03 := g02.trans g3
  clear kM2 kR2 kG hB2 g02 g3
  have y0 := kM3.cell 0
  go_wp2_with (refine ld_ri rfl (.tmp 8) rfl _ rfl rfl kG3 (by rfl) ?_)
  refine (hNx.out _ hB3 (HM.out.grew g03)).mono ?_
  rintro e w4 ⟨rfl, hB4, t4⟩
  have lB3 := hB3.lt
  have lM3 := kM3.lt
  have lR3 := kR3.lt
  have kM4 := kM3.trn t4 (by omega)
  have kR4 := kR3.trn t4 (by omega)
  have kG4 := kG3.trn t4 (by omega)
  have HM4 := Lib.hid ((HM.out.grew g03).trn hB3 t4)
  have HF4 := Lib.hid ((HF.out.grew g03).trn hB3 t4)
  have T4 := (Trn.of_grew g03).trans t4
  have s4 := t4.size
  have lG3 := kG3.lt
  clear y0 kM3 kR3 kG3 hB3 t4 HM HF
  go_upto_region 6 with (first | (refine al_ds rfl rfl ?_; intro wa kA gA) | (refine st_ds rfl (.tmp 9) (.tmp 31) rfl rfl zeroD rfl kA rfl (by rfl) (by rfl) ?_; intro w5 kD o5))
  have g45 : Grew w4 w5 := o5.grew gA (Nat.le_refl _)
  have kM5 := kM4.grew g45
  have kR5 := kR4.grew g45
  have kG5 := kG4.grew g45
  have hB5 := hB4.grew g45
  have HM5 := Lib.hid (HM4.out.grew g45)
  have HF5 := Lib.hid (HF4.out.grew g45)
  have T5 := T4.trans (Trn.of_grew g45)
  have nD : M < w4.heap.size ∧ R < w4.heap.size ∧ G < w4.heap.size ∧ p < w4.heap.size := ⟨by omega, by omega, by omega, by omega⟩
  clear kM4 kR4 kG4 hB4 HM4 HF4 T4 g45 o5 g03 kA gA
  generalize w4.heap.size = D at *
  go_upto_region 7 with fail
  go_wp2_with fail
  refine (hDr.out _ hB5).mono ?_
  rintro e wv ⟨rfl, hBv, tv⟩
  have lp := hB5.lt
  have lm := kM5.lt
  have lr := kR5.lt
  have kMv := kM5.trn tv (by omega)
  have kRv := kR5.trn tv (by omega)
  have HMv := Lib.hid (HM5.out.trn hB5 tv)
  have Tv : Trn p w wv := T5.trans tv
  clear tv kM5 kR5 hB5
  have y0 := kMv.cell 0
  go_wp2_with fail
  refine (hOw.out _ HMv.out).mono ?_
  rintro e w8 ⟨b, k, rfl, HR, g8⟩
  have kR8 := kRv.grew g8
  have hB8 := hBv.grew g8
  have lR8 := kRv.lt
  have z0 := kR8.cell 0
  have f0 := kR8.free 0
  clear y0
  go_wp2_with fail
  have hset := (kR8.set (o := 0) (.slice b xs.length k)).cell 0
  have HR2 := Lib.hid ((HR.out.set (c := R) lR8 (o := 0) (.slice b xs.length k)).buf HXO.out)
  have tz : Trn p w _ := (Tv.trans (Trn.of_grew g8)).only (Only.set w8 R 0 (.slice b xs.length k)) LR.out
  have hBz := hB8.other (c := R) (o := 0) (by omega) (.slice b xs.length k)
  exact bodyPost_ret (v := .tuple #[.agg #[.slice b xs.length k], .bool false]) (by simp [results, Try.results47, go_sem, hset]) rfl ⟨_, _, _, rfl, HR2, hBz, tz⟩

set_option maxHeartbeats 2000000 in
theorem recv_other {c : Nat → Int} {p : Nat} {w : World} {a : Option Addr} {n m : Nat} {xs : List Int} {fa : Option Addr} {fn fm : Nat} {fs : List Int} (hB : Blk w p (rgA c) 80) (hM : Buf w (.slice a n m) xs) (hl : xs.length ≤ 140737488355328) (hF : Buf w (.slice fa fn fm) fs) (hc : ROk c) (ht : takesB c fs = true) (hw : waitsr c = true) (hin : insideV xs.length (c 7 + 16 * c 9) 16 = true) {ds : List Int} (hds : bytesV xs (c 7 + 16 * c 9) 16 = ds) (hown : ownB ds = false) :
    Calls Try.prog 47 #[.pointer (some ⟨p, 0, none⟩), .agg #[.slice a n m], .slice fa fn fm] w fun e w' => ∃ a1 n1 m1, e = .returned (.tuple #[.agg #[.slice a1 n1 m1], .bool false]) ∧ Hid (Buf w' (.slice a1 n1 m1) xs) ∧ Blk w' p (rgA (dropC c)) 80 ∧ Trn p w w' := by
  have hp := hB.lt
  have HM := Lib.hid hM
  have HF := Lib.hid hF
  have HXO := Lib.hid hM.ok
  have hTk := Lib.hid (fun (w : World) (h : Blk w p (rgA c) 80) (h2 : Buf w (.slice fa fn fm) fs) => takes_c h hc.rg hc.r0.2 h2)
  rw [ht] at hTk
  have hOw := Lib.hid (fun (w : World) (h : Buf w (.slice a n m) xs) => ownRam_c hl h)
  have hWt := Lib.hid (fun (w : World) (h : Blk w p (rgA c) 80) => waits_r h hc.r0.1 hc.r0.2)
  rw [hw] at hWt
  have hok : AreBytes (bytesV xs (c 7 + 16 * c 9) 16) := bytesV_ok hM.ok _ _
  have h16 := bytesV_16 hin
  have hNx := Lib.hid (fun (w : World) (h : Blk w p (rgA c) 80) (h2 : Buf w (.slice a n m) xs) => next_r_yes h h2 hl hc.r7.1 hc.r7.2 hc.r9.1 (by have := hc.r8; have := hc.r9; omega) hin)
  rw [hds] at hok h16 hNx
  have H16 := Lib.hid h16
  have hOn := Lib.hid (owned_c hok h16)
  unfold ownB at hown
  rw [hown] at hOn
  have hDr := Lib.hid (fun (w : World) (h : Blk w p (rgA c) 80) => drop_c h (hc).r11.1 (hc).r11.2 (hc).r1.1 (hc).r1.2)
  clear hM hl hc hw hin hok h16 hown hds ht hF
  go_enter Try.func47, Try.ntmps47
  go_upto_region 1 with fail
  have kM : Blk ((w.alloc (.cells #[.slice a n m] 27)).alloc (.cells #[.slice none 0 0] 27)) w.heap.size #[.slice a n m] 27 := (Blk.new w #[.slice a n m] 27 _ rfl).alloc (.cells #[.slice none 0 0] 27)
  have kR : Blk ((w.alloc (.cells #[.slice a n m] 27)).alloc (.cells #[.slice none 0 0] 27)) (w.heap.size + 1) #[.slice none 0 0] 27 := Blk.new (w.alloc (.cells #[.slice a n m] 27)) #[.slice none 0 0] 27 _ (by simp)
  have g0 : Grew w ((w.alloc (.cells #[.slice a n m] 27)).alloc (.cells #[.slice none 0 0] 27)) := ((Grew.refl w).alloc (.cells #[.slice a n m] 27)).alloc (.cells #[.slice none 0 0] 27)
  replace hB := ((hB).alloc (.cells #[.slice a n m] 27)).alloc (.cells #[.slice none 0 0] 27)
  generalize ((w.alloc (.cells #[.slice a n m] 27)).alloc (.cells #[.slice none 0 0] 27)) = w0 at *
  have lM : w.heap.size ≤ w.heap.size := by omega
  have lR : w.heap.size ≤ (w.heap.size + 1) := by omega
  have nMR : w.heap.size ≠ (w.heap.size + 1) := by omega
  have nRM : (w.heap.size + 1) ≠ w.heap.size := by omega
  generalize (w.heap.size + 1) = R at *
  generalize hZ : w.heap.size = M at *
  have HZ := Lib.hid hZ
  clear hZ
  have LM : Hid (w.heap.size ≤ M) := Lib.hid (by rw [HZ.out]; exact lM)
  have LR : Hid (w.heap.size ≤ R) := Lib.hid (by rw [HZ.out]; exact lR)
  have hpM : p < M := hp
  go_wp2_with fail
  refine (receiving_c _).mono ?_
  rintro e w1 ⟨rfl, g1⟩
  have kM1 := kM.grew g1
  have kR1 := kR.grew g1
  have hB1 := hB.grew g1
  have g01 := g0.trans g1
  have lM1 := kM1.lt
  have lR1 := kR1.lt
  go_upto_region 2 with (first | (refine al_ri rfl rfl ?_; intro wa kA gA) | (refine st_ri rfl (.tmp 8) (.tmp 11) rfl rfl rgVr rfl rgVr_one kA rfl (by rfl) (by rfl) ?_; intro w2 kG o2))
  have g12 : Grew w1 w2 := o2.grew gA (Nat.le_refl _)
  have kM2 := kM1.grew g12
  have kR2 := kR1.grew g12
  have hB2 := hB1.grew g12
  have g02 : Grew w w2 := g01.trans g12
  have lG : M < w1.heap.size ∧ R < w1.heap.size := ⟨lM1, lR1⟩
  clear kM kR hB g0 g1 kM1 kR1 hB1 g01 lM1 lR1 o2 kA gA g12
  generalize w1.heap.size = G at *
  go_wp2_with fail
  refine (hTk.out _ hB2 (HF.out.grew g02)).mono ?_
  rintro e wt ⟨rfl, gt⟩
  replace kM2 := kM2.grew gt
  replace kR2 := kR2.grew gt
  replace kG := kG.grew gt
  replace hB2 := hB2.grew gt
  replace g02 := g02.trans gt
  clear gt
  go_wp2_with (refine lw_ri (by rfl) (.tmp 8) rfl _ rfl rfl kG (by rfl) ?_)
  refine (hWt.out _ hB2).mono ?_
  rintro e w3 ⟨rfl, g3⟩
  have kM3 := kM2.grew g3
  have kR3 := kR2.grew g3
  have kG3 := kG.grew g3
  have hB3 := hB2.grew g3
  have g03 := g02.trans g3
  clear kM2 kR2 kG hB2 g02 g3
  have y0 := kM3.cell 0
  go_wp2_with (refine ld_ri rfl (.tmp 8) rfl _ rfl rfl kG3 (by rfl) ?_)
  refine (hNx.out _ hB3 (HM.out.grew g03)).mono ?_
  rintro e w4 ⟨rfl, hB4, t4⟩
  have lB3 := hB3.lt
  have lM3 := kM3.lt
  have lR3 := kR3.lt
  have kM4 := kM3.trn t4 (by omega)
  have kR4 := kR3.trn t4 (by omega)
  have kG4 := kG3.trn t4 (by omega)
  have HM4 := Lib.hid ((HM.out.grew g03).trn hB3 t4)
  have HF4 := Lib.hid ((HF.out.grew g03).trn hB3 t4)
  have T4 := (Trn.of_grew g03).trans t4
  have s4 := t4.size
  have lG3 := kG3.lt
  clear y0 kM3 kR3 kG3 hB3 t4 HM HF
  go_upto_region 6 with (first | (refine al_ds rfl rfl ?_; intro wa kA gA) | (refine st_ds rfl (.tmp 9) (.tmp 31) rfl rfl ds H16.out kA rfl (by rfl) (by rfl) ?_; intro w5 kD o5))
  have g45 : Grew w4 w5 := o5.grew gA (Nat.le_refl _)
  have kM5 := kM4.grew g45
  have kR5 := kR4.grew g45
  have kG5 := kG4.grew g45
  have hB5 := hB4.grew g45
  have HM5 := Lib.hid (HM4.out.grew g45)
  have HF5 := Lib.hid (HF4.out.grew g45)
  have T5 := T4.trans (Trn.of_grew g45)
  have nD : M < w4.heap.size ∧ R < w4.heap.size ∧ G < w4.heap.size ∧ p < w4.heap.size := ⟨by omega, by omega, by omega, by omega⟩
  clear kM4 kR4 kG4 hB4 HM4 HF4 T4 g45 o5 g03 kA gA
  generalize w4.heap.size = D at *
  go_wp2_with (refine lw_ds (by rfl) (.tmp 9) rfl _ rfl H16.out kD (by rfl) ?_)
  refine (hOn.out _).mono ?_
  rintro e w6 ⟨rfl, g6⟩
  have kM6 := kM5.grew g6
  have kR6 := kR5.grew g6
  have kG6 := kG5.grew g6
  have kD6 := kD.grew g6
  have hB6 := hB5.grew g6
  have HM6 := Lib.hid (HM5.out.grew g6)
  have HF6 := Lib.hid (HF5.out.grew g6)
  have T6 := T5.trans (Trn.of_grew g6)
  clear kM5 kR5 kG5 kD hB5 HM5 HF5 T5 g6
  go_upto_region 7 with fail
  go_wp2_with fail
  refine (hDr.out _ hB6).mono ?_
  rintro e wv ⟨rfl, hBv, tv⟩
  have lp := hB6.lt
  have lm := kM6.lt
  have lr := kR6.lt
  have kMv := kM6.trn tv (by omega)
  have kRv := kR6.trn tv (by omega)
  have HMv := Lib.hid (HM6.out.trn hB6 tv)
  have Tv : Trn p w wv := T6.trans tv
  clear tv kM6 kR6 hB6
  have y0 := kMv.cell 0
  go_wp2_with fail
  refine (hOw.out _ HMv.out).mono ?_
  rintro e w8 ⟨b, k, rfl, HR, g8⟩
  have kR8 := kRv.grew g8
  have hB8 := hBv.grew g8
  have lR8 := kRv.lt
  have z0 := kR8.cell 0
  have f0 := kR8.free 0
  clear y0
  go_wp2_with fail
  have hset := (kR8.set (o := 0) (.slice b xs.length k)).cell 0
  have HR2 := Lib.hid ((HR.out.set (c := R) lR8 (o := 0) (.slice b xs.length k)).buf HXO.out)
  have tz : Trn p w _ := (Tv.trans (Trn.of_grew g8)).only (Only.set w8 R 0 (.slice b xs.length k)) LR.out
  have hBz := hB8.other (c := R) (o := 0) (by omega) (.slice b xs.length k)
  exact bodyPost_ret (v := .tuple #[.agg #[.slice b xs.length k], .bool false]) (by simp [results, Try.results47, go_sem, hset]) rfl ⟨_, _, _, rfl, HR2, hBz, tz⟩

end Go.Proofs.Ytoehdhhodidehaa
