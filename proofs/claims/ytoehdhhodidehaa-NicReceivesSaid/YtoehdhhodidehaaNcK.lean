/-
  Package nic: the cases of send.
-/
import Derived.Test.YtoehdhhodidehaaRows
import Derived.Test.YtoehdhhodidehaaNcJ
import Derived.WalkKit
import Derived.Outline
import Derived.Handy
import Derived.StillTailTactics
import Derived.Deep.QuietTactic
import Derived.BigQuiet
import Derived.Deep.DeepCutAuto
import Derived.Deep.RegionHeld3
import Derived.Great.BuildSlice
import Derived.Deep.WholeRow
import Derived.Lib.SliceRun
import Derived.BigFrame
set_option maxRecDepth 4000
set_option linter.unusedVariables false
set_option linter.unusedSimpArgs false
namespace Go.Proofs.Ytoehdhhodidehaa
open Go.RowKit

set_option maxHeartbeats 2000000 in
theorem send_idle {c : Nat → Int} {p : Nat} {w : World} {a : Option Addr} {n m : Nat} {xs : List Int} (hB : Blk w p (rgA c) 80) (hM : Buf w (.slice a n m) xs) (hl : xs.length ≤ 140737488355328) (hc : ROk c) (hw : waitst c = false) :
    Calls Try.prog 36 #[.pointer (some ⟨p, 0, none⟩), .agg #[.slice a n m]] w fun e w' => ∃ a1 n1 m1 a2 n2 m2, e = .returned (.tuple #[.agg #[.slice a1 n1 m1], .slice a2 n2 m2, .bool false]) ∧ Hid (Buf w' (.slice a1 n1 m1) xs) ∧ Hid (Buf w' (.slice a2 n2 m2) []) ∧ Blk w' p (rgA c) 80 ∧ Trn p w w' := by
  have hp := hB.lt
  have HM := Lib.hid hM
  have HXO := Lib.hid hM.ok
  have hWt := Lib.hid (fun (w : World) (h : Blk w p (rgA c) 80) => waits_t h hc.r0.1 hc.r0.2)
  have hOw := Lib.hid (fun (w : World) (h : Buf w (.slice a n m) xs) => ownRam_c hl h)
  rw [hw] at hWt
  clear hM hl hc hw
  go_enter Try.func36, Try.ntmps36
  go_upto_region 1 with fail
  have kM : Blk ((w.alloc (.cells #[.slice a n m] 27)).alloc (.cells #[.slice none 0 0] 27)) w.heap.size #[.slice a n m] 27 := (Blk.new w #[.slice a n m] 27 _ rfl).alloc (.cells #[.slice none 0 0] 27)
  have kR : Blk ((w.alloc (.cells #[.slice a n m] 27)).alloc (.cells #[.slice none 0 0] 27)) (w.heap.size + 1) #[.slice none 0 0] 27 := Blk.new (w.alloc (.cells #[.slice a n m] 27)) #[.slice none 0 0] 27 _ (by simp)
  have g0 : Grew w ((w.alloc (.cells #[.slice a n m] 27)).alloc (.cells #[.slice none 0 0] 27)) := ((Grew.refl w).alloc (.cells #[.slice a n m] 27)).alloc (.cells #[.slice none 0 0] 27)
  replace hB := ((hB).alloc (.cells #[.slice a n m] 27)).alloc (.cells #[.slice none 0 0] 27)
  generalize ((w.alloc (.cells #[.slice a n m] 27)).alloc (.cells #[.slice none 0 0] 27)) = w0 at *
  have lM : w.heap.size ≤ w.heap.size := by omega
  have lR : w.heap.size ≤ (w.heap.size + 1) := by omega
  have nMR : w.heap.size ≠ (w.heap.size + 1) := by omega
  have nRM : (w.heap.size + 1) ≠ w.heap.size := by omega
  generalize (w.heap.size + 1) = R at *
  generalize hZ : w.heap.size = M at *
  have HZ := Lib.hid hZ
  clear hZ
  have LM : Hid (w.heap.size ≤ M) := Lib.hid (by rw [HZ.out]; exact lM)
  have LR : Hid (w.heap.size ≤ R) := Lib.hid (by rw [HZ.out]; exact lR)
  have hpM : p < M := hp
  go_wp2_with fail
  refine (sending_c _).mono ?_
  rintro e w1 ⟨rfl, g1⟩
  have kM1 := kM.grew g1
  have kR1 := kR.grew g1
  have hB1 := hB.grew g1
  have g01 := g0.trans g1
  have lM1 := kM1.lt
  have lR1 := kR1.lt
  go_upto_region 2 with (first | (refine al_ri rfl rfl ?_; intro wa kA gA) | (refine st_ri rfl (.tmp 7) (.tmp 11) rfl rfl rgVt rfl rgVt_one kA rfl (by rfl) (by rfl) ?_; intro w2 kG o2))
  have g12 : Grew w1 w2 := o2.grew gA (Nat.le_refl _)
  have kM2 := kM1.grew g12
  have kR2 := kR1.grew g12
  have hB2 := hB1.grew g12
  have g02 : Grew w w2 := g01.trans g12
  have lG : M < w1.heap.size ∧ R < w1.heap.size := ⟨lM1, lR1⟩
  clear kM kR hB g0 g1 kM1 kR1 hB1 g01 lM1 lR1 o2 kA gA g12
  generalize w1.heap.size = G at *
  go_wp2_with (refine ld_ri rfl (.tmp 7) rfl _ rfl rfl kG (by rfl) ?_)
  refine (hWt.out _ hB2).mono ?_
  rintro e w3 ⟨rfl, g3⟩
  have kM3 := kM2.grew g3
  have kR3 := kR2.grew g3
  have kG3 := kG.grew g3
  have hB3 := hB2.grew g3
  have g03 := g02.trans g3
  clear kM2 kR2 kG hB2 g02 g3
  have y0 := kM3.cell 0
  go_wp2_with fail
  refine (hOw.out _ (HM.out.grew g03)).mono ?_
  rintro e w8 ⟨b, k, rfl, HR, g8⟩
  have kR8 := kR3.grew g8
  have hB8 := hB3.grew g8
  have lR8 := kR3.lt
  have z0 := kR8.cell 0
  have f0 := kR8.free 0
  clear y0
  go_wp2_with fail
  have hset := (kR8.set (o := 0) (.slice b xs.length k)).cell 0
  have HR2 := Lib.hid ((HR.out.set (c := R) lR8 (o := 0) (.slice b xs.length k)).buf HXO.out)
  have tz : Trn p w _ := ((Trn.of_grew g03).trans (Trn.of_grew g8)).only (Only.set w8 R 0 (.slice b xs.length k)) LR.out
  have hBz := hB8.other (c := R) (o := 0) (by omega) (.slice b xs.length k)
  exact bodyPost_ret (v := .tuple #[.agg #[.slice b xs.length k], .slice none 0 0, .bool false]) (by simp [results, Try.results36, go_sem, hset]) rfl ⟨_, _, _, _, _, _, rfl, HR2, Lib.hid (Buf.nil _), hBz, tz⟩

set_option maxHeartbeats 2000000 in
theorem send_broke {c : Nat → Int} {p : Nat} {w : World} {a : Option Addr} {n m : Nat} {xs : List Int} (hB : Blk w p (rgA c) 80) (hM : Buf w (.slice a n m) xs) (hl : xs.length ≤ 140737488355328) (hc : ROk c) (hw : waitst c = true) (hin : insideV xs.length (c 3 + 16 * c 5) 16 = false) :
    Calls Try.prog 36 #[.pointer (some ⟨p, 0, none⟩), .agg #[.slice a n m]] w fun e w' => ∃ a1 n1 m1 a2 n2 m2, e = .returned (.tuple #[.agg #[.slice a1 n1 m1], .slice a2 n2 m2, .bool true]) ∧ Hid (Buf w' (.slice a1 n1 m1) xs) ∧ Hid (Buf w' (.slice a2 n2 m2) []) ∧ Blk w' p (rgA (broket c)) 80 ∧ Trn p w w' := by
  have hk : bitB 1 (c 0) = true := by unfold waitst at hw; simp at hw; exact hw.1
  have hp := hB.lt
  have HM := Lib.hid hM
  have HXO := Lib.hid hM.ok
  have hWt := Lib.hid (fun (w : World) (h : Blk w p (rgA c) 80) => waits_t h hc.r0.1 hc.r0.2)
  have hOw := Lib.hid (fun (w : World) (h : Buf w (.slice a n m) xs) => ownRam_c hl h)
  rw [hw] at hWt
  have hNx := Lib.hid (fun (w : World) (h : Blk w p (rgA c) 80) (h2 : Buf w (.slice a n m) xs) => next_t_no h h2 hl hc.r3.1 hc.r3.2 hc.r5.1 (by have := hc.r4; have := hc.r5; omega) hc.r0.1 hc.r0.2 hk hc.r12.1 hc.r12.2 hc.r1.1 hc.r1.2 hin)
  clear hM hl hc hw hin hk
  go_enter Try.func36, Try.ntmps36
  go_upto_region 1 with fail
  have kM : Blk ((w.alloc (.cells #[.slice a n m] 27)).alloc (.cells #[.slice none 0 0] 27)) w.heap.size #[.slice a n m] 27 := (Blk.new w #[.slice a n m] 27 _ rfl).alloc (.cells #[.slice none 0 0] 27)
  have kR : Blk ((w.alloc (.cells #[.slice a n m] 27)).alloc (.cells #[.slice none 0 0] 27)) (w.heap.size + 1) #[.slice none 0 0] 27 := Blk.new (w.alloc (.cells #[.slice a n m] 27)) #[.slice none 0 0] 27 _ (by simp)
  have g0 : Grew w ((w.alloc (.cells #[.slice a n m] 27)).alloc (.cells #[.slice none 0 0] 27)) := ((Grew.refl w).alloc (.cells #[.slice a n m] 27)).alloc (.cells #[.slice none 0 0] 27)
  replace hB := ((hB).alloc (.cells #[.slice a n m] 27)).alloc (.cells #[.slice none 0 0] 27)
  generalize ((w.alloc (.cells #[.slice a n m] 27)).alloc (.cells #[.slice none 0 0] 27)) = w0 at *
  have lM : w.heap.size ≤ w.heap.size := by omega
  have lR : w.heap.size ≤ (w.heap.size + 1) := by omega
  have nMR : w.heap.size ≠ (w.heap.size + 1) := by omega
  have nRM : (w.heap.size + 1) ≠ w.heap.size := by omega
  generalize (w.heap.size + 1) = R at *
  generalize hZ : w.heap.size = M at *
  have HZ := Lib.hid hZ
  clear hZ
  have LM : Hid (w.heap.size ≤ M) := Lib.hid (by rw [HZ.out]; exact lM)
  have LR : Hid (w.heap.size ≤ R) := Lib.hid (by rw [HZ.out]; exact lR)
  have hpM : p < M := hp
  go_wp2_with fail
  refine (sending_c _).mono ?_
  rintro e w1 ⟨rfl, g1⟩
  have kM1 := kM.grew g1
  have kR1 := kR.grew g1
  have hB1 := hB.grew g1
  have g01 := g0.trans g1
  have lM1 := kM1.lt
  have lR1 := kR1.lt
  go_upto_region 2 with (first | (refine al_ri rfl rfl ?_; intro wa kA gA) | (refine st_ri rfl (.tmp 7) (.tmp 11) rfl rfl rgVt rfl rgVt_one kA rfl (by rfl) (by rfl) ?_; intro w2 kG o2))
  have g12 : Grew w1 w2 := o2.grew gA (Nat.le_refl _)
  have kM2 := kM1.grew g12
  have kR2 := kR1.grew g12
  have hB2 := hB1.grew g12
  have g02 : Grew w w2 := g01.trans g12
  have lG : M < w1.heap.size ∧ R < w1.heap.size := ⟨lM1, lR1⟩
  clear kM kR hB g0 g1 kM1 kR1 hB1 g01 lM1 lR1 o2 kA gA g12
  generalize w1.heap.size = G at *
  go_wp2_with (refine ld_ri rfl (.tmp 7) rfl _ rfl rfl kG (by rfl) ?_)
  refine (hWt.out _ hB2).mono ?_
  rintro e w3 ⟨rfl, g3⟩
  have kM3 := kM2.grew g3
  have kR3 := kR2.grew g3
  have kG3 := kG.grew g3
  have hB3 := hB2.grew g3
  have g03 := g02.trans g3
  clear kM2 kR2 kG hB2 g02 g3
  have y0 := kM3.cell 0
  go_wp2_with (refine ld_ri rfl (.tmp 7) rfl _ rfl rfl kG3 (by rfl) ?_)
  refine (hNx.out _ hB3 (HM.out.grew g03)).mono ?_
  rintro e w4 ⟨rfl, hB4, t4⟩
  have lB3 := hB3.lt
  have lM3 := kM3.lt
  have lR3 := kR3.lt
  have kM4 := kM3.trn t4 (by omega)
  have kR4 := kR3.trn t4 (by omega)
  have kG4 := kG3.trn t4 (by omega)
  have HM4 := Lib.hid ((HM.out.grew g03).trn hB3 t4)
  have T4 := (Trn.of_grew g03).trans t4
  have s4 := t4.size
  have lG3 := kG3.lt
  clear y0 kM3 kR3 kG3 hB3 t4 HM
  go_upto_region 5 with (first | (refine al_ds rfl rfl ?_; intro wa kA gA) | (refine st_ds rfl (.tmp 8) (.tmp 23) rfl rfl zeroD rfl kA rfl (by rfl) (by rfl) ?_; intro w5 kD o5))
  have g45 : Grew w4 w5 := o5.grew gA (Nat.le_refl _)
  have kM5 := kM4.grew g45
  have kR5 := kR4.grew g45
  have kG5 := kG4.grew g45
  have hB5 := hB4.grew g45
  have HM5 := Lib.hid (HM4.out.grew g45)
  have T5 := T4.trans (Trn.of_grew g45)
  have nD : M < w4.heap.size ∧ R < w4.heap.size ∧ G < w4.heap.size ∧ p < w4.heap.size := ⟨by omega, by omega, by omega, by omega⟩
  clear kM4 kR4 kG4 hB4 HM4 T4 g45 o5 g03 kA gA
  generalize w4.heap.size = D at *
  go_upto_region 6 with fail
  have y0 := kM5.cell 0
  go_wp2_with fail
  refine (hOw.out _ HM5.out).mono ?_
  rintro e w8 ⟨b, k, rfl, HR, g8⟩
  have kR8 := kR5.grew g8
  have hB8 := hB5.grew g8
  have lR8 := kR5.lt
  have z0 := kR8.cell 0
  have f0 := kR8.free 0
  clear y0
  go_wp2_with fail
  have hset := (kR8.set (o := 0) (.slice b xs.length k)).cell 0
  have HR2 := Lib.hid ((HR.out.set (c := R) lR8 (o := 0) (.slice b xs.length k)).buf HXO.out)
  have tz : Trn p w _ := (T5.trans (Trn.of_grew g8)).only (Only.set w8 R 0 (.slice b xs.length k)) LR.out
  have hBz := hB8.other (c := R) (o := 0) (by omega) (.slice b xs.length k)
  exact bodyPost_ret (v := .tuple #[.agg #[.slice b xs.length k], .slice none 0 0, .bool true]) (by simp [results, Try.results36, go_sem, hset]) rfl ⟨_, _, _, _, _, _, rfl, HR2, Lib.hid (Buf.nil _), hBz, tz⟩

set_option maxHeartbeats 2000000 in
theorem send_other {c : Nat → Int} {p : Nat} {w : World} {a : Option Addr} {n m : Nat} {xs : List Int} (hB : Blk w p (rgA c) 80) (hM : Buf w (.slice a n m) xs) (hl : xs.length ≤ 140737488355328) (hc : ROk c) (hw : waitst c = true) (hin : insideV xs.length (c 3 + 16 * c 5) 16 = true) (hown : ownB (bytesV xs (c 3 + 16 * c 5) 16) = false) :
    Calls Try.prog 36 #[.pointer (some ⟨p, 0, none⟩), .agg #[.slice a n m]] w fun e w' => ∃ a1 n1 m1 a2 n2 m2, e = .returned (.tuple #[.agg #[.slice a1 n1 m1], .slice a2 n2 m2, .bool false]) ∧ Hid (Buf w' (.slice a1 n1 m1) xs) ∧ Hid (Buf w' (.slice a2 n2 m2) []) ∧ Blk w' p (rgA c) 80 ∧ Trn p w w' := by
  have hp := hB.lt
  have HM := Lib.hid hM
  have HXO := Lib.hid hM.ok
  have hWt := Lib.hid (fun (w : World) (h : Blk w p (rgA c) 80) => waits_t h hc.r0.1 hc.r0.2)
  have hOw := Lib.hid (fun (w : World) (h : Buf w (.slice a n m) xs) => ownRam_c hl h)
  rw [hw] at hWt
  have hok : AreBytes (bytesV xs (c 3 + 16 * c 5) 16) := bytesV_ok hM.ok _ _
  have h16 := bytesV_16 hin
  have hNx := Lib.hid (fun (w : World) (h : Blk w p (rgA c) 80) (h2 : Buf w (.slice a n m) xs) => next_t_yes h h2 hl hc.r3.1 hc.r3.2 hc.r5.1 (by have := hc.r4; have := hc.r5; omega) hin)
  generalize bytesV xs (c 3 + 16 * c 5) 16 = ds at *
  have H16 := Lib.hid h16
  have hOn := Lib.hid (owned_c hok h16)
  unfold ownB at hown
  rw [hown] at hOn
  clear hM hl hc hw hin hok h16 hown
  go_enter Try.func36, Try.ntmps36
  go_upto_region 1 with fail
  have kM : Blk ((w.alloc (.cells #[.slice a n m] 27)).alloc (.cells #[.slice none 0 0] 27)) w.heap.size #[.slice a n m] 27 := (Blk.new w #[.slice a n m] 27 _ rfl).alloc (.cells #[.slice none 0 0] 27)
  have kR : Blk ((w.alloc (.cells #[.slice a n m] 27)).alloc (.cells #[.slice none 0 0] 27)) (w.heap.size + 1) #[.slice none 0 0] 27 := Blk.new (w.alloc (.cells #[.slice a n m] 27)) #[.slice none 0 0] 27 _ (by simp)
  have g0 : Grew w ((w.alloc (.cells #[.slice a n m] 27)).alloc (.cells #[.slice none 0 0] 27)) := ((Grew.refl w).alloc (.cells #[.slice a n m] 27)).alloc (.cells #[.slice none 0 0] 27)
  replace hB := ((hB).alloc (.cells #[.slice a n m] 27)).alloc (.cells #[.slice none 0 0] 27)
  generalize ((w.alloc (.cells #[.slice a n m] 27)).alloc (.cells #[.slice none 0 0] 27)) = w0 at *
  have lM : w.heap.size ≤ w.heap.size := by omega
  have lR : w.heap.size ≤ (w.heap.size + 1) := by omega
  have nMR : w.heap.size ≠ (w.heap.size + 1) := by omega
  have nRM : (w.heap.size + 1) ≠ w.heap.size := by omega
  generalize (w.heap.size + 1) = R at *
  generalize hZ : w.heap.size = M at *
  have HZ := Lib.hid hZ
  clear hZ
  have LM : Hid (w.heap.size ≤ M) := Lib.hid (by rw [HZ.out]; exact lM)
  have LR : Hid (w.heap.size ≤ R) := Lib.hid (by rw [HZ.out]; exact lR)
  have hpM : p < M := hp
  go_wp2_with fail
  refine (sending_c _).mono ?_
  rintro e w1 ⟨rfl, g1⟩
  have kM1 := kM.grew g1
  have kR1 := kR.grew g1
  have hB1 := hB.grew g1
  have g01 := g0.trans g1
  have lM1 := kM1.lt
  have lR1 := kR1.lt
  go_upto_region 2 with (first | (refine al_ri rfl rfl ?_; intro wa kA gA) | (refine st_ri rfl (.tmp 7) (.tmp 11) rfl rfl rgVt rfl rgVt_one kA rfl (by rfl) (by rfl) ?_; intro w2 kG o2))
  have g12 : Grew w1 w2 := o2.grew gA (Nat.le_refl _)
  have kM2 := kM1.grew g12
  have kR2 := kR1.grew g12
  have hB2 := hB1.grew g12
  have g02 : Grew w w2 := g01.trans g12
  have lG : M < w1.heap.size ∧ R < w1.heap.size := ⟨lM1, lR1⟩
  clear kM kR hB g0 g1 kM1 kR1 hB1 g01 lM1 lR1 o2 kA gA g12
  generalize w1.heap.size = G at *
  go_wp2_with (refine ld_ri rfl (.tmp 7) rfl _ rfl rfl kG (by rfl) ?_)
  refine (hWt.out _ hB2).mono ?_
  rintro e w3 ⟨rfl, g3⟩
  have kM3 := kM2.grew g3
  have kR3 := kR2.grew g3
  have kG3 := kG.grew g3
  have hB3 := hB2.grew g3
  have g03 := g02.trans g3
  clear kM2 kR2 kG hB2 g02 g3
  have y0 := kM3.cell 0
  go_wp2_with (refine ld_ri rfl (.tmp 7) rfl _ rfl rfl kG3 (by rfl) ?_)
  refine (hNx.out _ hB3 (HM.out.grew g03)).mono ?_
  rintro e w4 ⟨rfl, hB4, t4⟩
  have lB3 := hB3.lt
  have lM3 := kM3.lt
  have lR3 := kR3.lt
  have kM4 := kM3.trn t4 (by omega)
  have kR4 := kR3.trn t4 (by omega)
  have kG4 := kG3.trn t4 (by omega)
  have HM4 := Lib.hid ((HM.out.grew g03).trn hB3 t4)
  have T4 := (Trn.of_grew g03).trans t4
  have s4 := t4.size
  have lG3 := kG3.lt
  clear y0 kM3 kR3 kG3 hB3 t4 HM
  go_upto_region 5 with (first | (refine al_ds rfl rfl ?_; intro wa kA gA) | (refine st_ds rfl (.tmp 8) (.tmp 23) rfl rfl ds H16.out kA rfl (by rfl) (by rfl) ?_; intro w5 kD o5))
  have g45 : Grew w4 w5 := o5.grew gA (Nat.le_refl _)
  have kM5 := kM4.grew g45
  have kR5 := kR4.grew g45
  have kG5 := kG4.grew g45
  have hB5 := hB4.grew g45
  have HM5 := Lib.hid (HM4.out.grew g45)
  have T5 := T4.trans (Trn.of_grew g45)
  have nD : M < w4.heap.size ∧ R < w4.heap.size ∧ G < w4.heap.size ∧ p < w4.heap.size := ⟨by omega, by omega, by omega, by omega⟩
  clear kM4 kR4 kG4 hB4 HM4 T4 g45 o5 g03 kA gA
  generalize w4.heap.size = D at *
  go_upto_region 7 with fail
  go_wp2_with (refine ld_ds rfl (.tmp 8) rfl _ rfl H16.out kD (by rfl) ?_)
  refine (hOn.out _).mono ?_
  rintro e w6 ⟨rfl, g6⟩
  have kM6 := kM5.grew g6
  have kR6 := kR5.grew g6
  have kG6 := kG5.grew g6
  have kD6 := kD.grew g6
  have hB6 := hB5.grew g6
  have HM6 := Lib.hid (HM5.out.grew g6)
  have T6 := T5.trans (Trn.of_grew g6)
  clear kM5 kR5 kG5 kD hB5 HM5 T5 g6
  go_upto_region 8 with fail
  have y0 := kM6.cell 0
  go_wp2_with fail
  refine (hOw.out _ HM6.out).mono ?_
  rintro e w8 ⟨b, k, rfl, HR, g8⟩
  have kR8 := kR6.grew g8
  have hB8 := hB6.grew g8
  have lR8 := kR6.lt
  have z0 := kR8.cell 0
  have f0 := kR8.free 0
  clear y0
  go_wp2_with fail
  have hset := (kR8.set (o := 0) (.slice b xs.length k)).cell 0
  have HR2 := Lib.hid ((HR.out.set (c := R) lR8 (o := 0) (.slice b xs.length k)).buf HXO.out)
  have tz : Trn p w _ := (T6.trans (Trn.of_grew g8)).only (Only.set w8 R 0 (.slice b xs.length k)) LR.out
  have hBz := hB8.other (c := R) (o := 0) (by omega) (.slice b xs.length k)
  exact bodyPost_ret (v := .tuple #[.agg #[.slice b xs.length k], .slice none 0 0, .bool false]) (by simp [results, Try.results36, go_sem, hset]) rfl ⟨_, _, _, _, _, _, rfl, HR2, Lib.hid (Buf.nil _), hBz, tz⟩

end Go.Proofs.Ytoehdhhodidehaa
