/-
  The document's own Receive of a frame that is taken.
-/
import Derived.Test.YtoehdhhodidehaaRows
import Derived.Test.YtoehdhhodidehaaNcRw
import Derived.WalkKit
import Derived.Outline
import Derived.Handy
import Derived.StillTailTactics
import Derived.Deep.QuietTactic
import Derived.BigQuiet
import Derived.Deep.DeepCutAuto
import Derived.Deep.RegionHeld3
import Derived.Great.BuildSlice
import Derived.Deep.WholeRow
import Derived.Lib.SliceRun
import Derived.BigFrame
set_option maxRecDepth 4000
set_option linter.unusedVariables false
set_option linter.unusedSimpArgs false
namespace Go.Proofs.Ytoehdhhodidehaa
open Go.RowKit

set_option maxHeartbeats 8000000 in
theorem rRecv_good {c : Nat → Int} {m : List Int} {a1 : Option Addr} {j : Nat} {a : Option Addr} {n k : Nat} {xs : List Int} {fa : Option Addr} {fk : Nat} {fs : List Int} {w : World} (hN : Buf w (.slice a1 m.length j) m) (hM : Buf w (.slice a n k) xs) (hF : Buf w (.slice fa fs.length fk) fs) (hl : xs.length ≤ 140737488355328) (h6 : m.length = 6) (hc : ROk c) (h1 : ¬ (fs.length : Int) < 14) (h2 : ¬ 1514 < (fs.length : Int)) (u0 : (c 0 / 2 % 2 == 0) = false) (hb : wantedB c m fs = true) (u9 : (c 9 == c 10) = false) (hin : insideV xs.length (atR c) 16 = true) (ho : ownB (bytesV xs (atR c) 16) = true) (hf : (decide (lenV (bytesV xs (atR c) 16) < (fs.length : Int)) || !insideV xs.length (adrV (bytesV xs (atR c) 16)) (fs.length : Int)) = false) : Calls Try.prog 28 #[ncV c (.slice a1 6 j), .agg #[.slice a n k], .slice fa fs.length fk] w fun e w' => ∃ a1 k1 a2 n2 k2, e = .returned (.tuple #[ncV (headr (upd c 1 (orB 2 (c 1)))) (.slice a1 6 k1), .agg #[.slice a2 n2 k2], .bool true]) ∧ Hid (Buf w' (.slice a1 6 k1) m) ∧ Hid (Buf w' (.slice a2 n2 k2) (writeV (fillV (writeV xs (atR c + 8) 2 (fs.length : Int)) (adrV (bytesV xs (atR c) 16)) fs) (atR c + 10) 4 (bothV (bytesV xs (atR c) 16) 1))) ∧ Grew w w' := by
  have hC := rCheck_c c a1 6 j
  rw [ok_chk hc] at hC
  have HC := Lib.hid hC
  rw [h6] at hN
  have hWa := fun (w : World) (h : Buf w (.slice a1 6 j) m) (hf : Buf w (.slice fa fs.length fk) fs) (hl : 6 ≤ fs.length) => wanted_c hc.r0.1 hc.r0.2 h hf hl
  have q2 : (c 0).tdiv 2 = c 0 / 2 := Int.tdiv_eq_ediv_of_nonneg hc.r0.1
  have e2 : (c 0 / 2).tmod 2 = c 0 / 2 % 2 := Int.tmod_eq_emod_of_nonneg (by have := hc.r0.1; omega)
  have qw : wrap64 (c 0 / 2) = c 0 / 2 := IntWalk.wrap64_in _ (by have := hc.r0; omega)
  have h14 : 6 ≤ fs.length := by omega
  have HWa := Lib.hid (fun (w : World) (h : Buf w (.slice a1 6 j) m) (hf : Buf w (.slice fa fs.length fk) fs) => (show Calls _ _ _ _ fun e w' => e = .returned (.bool true) ∧ Grew w w' from hb ▸ hWa w h hf h14))
  have d1 : decide ((fs.length : Int) < 14) = false := decide_eq_false h1
  have d2 : decide (1514 < (fs.length : Int)) = false := decide_eq_false h2
  clear hWa hb h14 h1 h2
  have r7 := hc.r7
  have r8 := hc.r8
  have r9 := hc.r9
  have q1 : IntKind.u64.wrap (c 9) = c 9 := IntWalk.u64_in _ (by omega)
  have q3 : IntKind.u64.wrap (16 * c 9) = 16 * c 9 := IntWalk.u64_in _ (by omega)
  have q4 : IntKind.u64.wrap (c 7 + 16 * c 9) = c 7 + 16 * c 9 := IntWalk.u64_in _ (by omega)
  have hBy := Lib.hid (fun (w : World) (h : Buf w (.slice a n k) xs) => refBytes_c (c 7 + 16 * c 9) 16 (by omega) (by omega) (by decide) (by decide) w h hl)
  have hA : atR c = c 7 + 16 * c 9 := rfl
  rw [hA] at hin
  rw [hin] at hBy
  rw [hA] at hf ⊢
  have hok := bytesV_ok hM.ok (c 7 + 16 * c 9) 16
  have h16 := bytesV_16 hin
  rw [hA] at ho
  rw [own_flag hok h16] at ho
  generalize bytesV xs (c 7 + 16 * c 9) 16 = ds at *
  have hd := hok.getD 10
  have d0 : (ds.getD 10 0).tmod 2 = ds.getD 10 0 % 2 := Int.tmod_eq_emod_of_nonneg hd.1
  have v0 : (ds.getD 10 0 % 2 == 0) = false := by
    unfold bitB at ho
    rw [Int.ediv_one] at ho
    simp only [beq_eq_false_iff_ne, beq_iff_eq, ne_eq] at ho ⊢
    omega
  have hpl := parts_lt hok h16
  have hG8 := Lib.hid (fun (w : World) (v : Value) (h : Buf w v (cutL ds 8 10)) => refGet_c false (hok.cut 8 10) (by rw [cutL_length (by decide) (by omega)]; decide) w h.bytes)
  have hG0 := Lib.hid (fun (w : World) (v : Value) (h : Buf w v (cutL ds 0 8)) => refGet_c false (hok.cut 0 8) (by rw [cutL_length (by decide) (by omega)]; decide) w h.bytes)
  change Hid (∀ w v, Buf w v (cutL ds 8 10) → Calls _ _ _ w fun e w' => e = .returned (.int .u64 (lenV ds)) ∧ w' = w) at hG8
  change Hid (∀ w v, Buf w v (cutL ds 0 8) → Calls _ _ _ w fun e w' => e = .returned (.int .u64 (adrV ds)) ∧ w' = w) at hG0
  have en := hM.lenEq.1
  have hfl : fs.length ≤ 1514 := by have := of_decide_eq_false d2; omega
  have hIn0 := fun (w : World) => refInside_c a n k (adrV ds) (fs.length : Int) (by unfold maxLen; omega) hpl.1.1 hpl.1.2 (by omega) (by omega) w
  rw [show insideV n (adrV ds) (fs.length : Int) = insideV xs.length (adrV ds) (fs.length : Int) by rw [en]] at hIn0
  have hIn := Lib.hid hIn0
  clear hIn0
  have hws : IntKind.i64.wrap (lenV ds) = lenV ds := IntWalk.i64_in _ (by omega)
  have q5 : IntKind.i64.wrap (c 9 + 1) = c 9 + 1 := IntWalk.i64_in _ (by omega)
  have q6 : (c 9 + 1).tmod (c 8) = (c 9 + 1) % c 8 := Int.tmod_eq_emod_of_nonneg (by omega)
  have q7 : c 8 ≠ 0 := by omega
  have q8 : (c 8 == 0) = false := by simpa using q7
  have HQ4 := Lib.hid (And.intro q5 (And.intro q6 (And.intro q7 q8)))
  have hPu := Lib.hid (fun (w : World) => (refPut_b (fs.length : Int) 2 (by decide) (by omega) (by omega) w).mono (fun e w' (h : ∃ u, e = .returned u ∧ Buf w' u (putL (fs.length : Int) 2 false) ∧ Grew w w') => (show ∃ pb pk, e = .returned (.slice pb 2 pk) ∧ Hid (Buf w' (.slice pb 2 pk) (putL (fs.length : Int) 2 false)) ∧ Grew w w' from by obtain ⟨u, he, hb, g⟩ := h; obtain ⟨pb, pk, rfl, _, _⟩ := hb.shape; exact ⟨pb, pk, he, Lib.hid hb, g⟩)))
  have hFill := fun (x : Int) (hx0 : 0 ≤ x) (hx1 : x < 18446744073709551616) (us vs : List Int) (hl : us.length ≤ 140737488355328) (w : World) (v u : Value) (hv : Buf w v us) (hu : Buf w u vs) => (refFill_c x hx0 hx1 w hv hu hl).mono (fun e w' (h : ∃ r, e = .returned (.tuple #[.agg #[r], .bool (insideV us.length x vs.length)]) ∧ Buf w' r (fillV us x vs) ∧ Grew w w') => (show ∃ qb ql qk, e = .returned (.tuple #[.agg #[.slice qb ql qk], .bool (insideV us.length x vs.length)]) ∧ Hid (Buf w' (.slice qb ql qk) (fillV us x vs)) ∧ Grew w w' from by obtain ⟨u, he, hb, g⟩ := h; obtain ⟨pb, pk, rfl, _, _⟩ := hb.shape; exact ⟨pb, _, pk, he, Lib.hid hb, g⟩))
  have hF1 := Lib.hid (hFill ((c 7 + 16 * c 9) + 8) (by omega) (by omega) xs (putL (fs.length : Int) 2 false) hl)
  have hl1 : (fillV xs ((c 7 + 16 * c 9) + 8) (putL (fs.length : Int) 2 false)).length ≤ 140737488355328 := by rw [fillV_length]; exact hl
  have hF2 := Lib.hid (hFill (adrV ds) hpl.1.1 hpl.1.2 (fillV xs ((c 7 + 16 * c 9) + 8) (putL (fs.length : Int) 2 false)) fs hl1)
  have hl2 : (fillV (fillV xs ((c 7 + 16 * c 9) + 8) (putL (fs.length : Int) 2 false)) (adrV ds) fs).length ≤ 140737488355328 := by rw [fillV_length]; exact hl1
  have hDo := Lib.hid (fun (w : World) (a : Option Addr) (n k : Nat) (b : Option Addr) (i : Nat) (h : Buf w (.slice a n k) (fillV (fillV xs ((c 7 + 16 * c 9) + 8) (putL (fs.length : Int) 2 false)) (adrV ds) fs)) (hD : Buf w (.slice b ds.length i) ds) => rdone_c (x := (c 7 + 16 * c 9)) (st := 1) (by omega) (by omega) (by decide) (by decide) h hD h16 hl2)
  rw [← done4 hok h16 (by decide) (by decide)] at hDo
  have hWV : ∀ us, fillV us ((c 7 + 16 * c 9) + 10) (putL (bothV ds 1) 4 false) = writeV us ((c 7 + 16 * c 9) + 10) 4 (bothV ds 1) := fun _ => rfl
  rw [hWV] at hDo
  have hW2 : writeV xs ((c 7 + 16 * c 9) + 8) 2 (fs.length : Int) = fillV xs ((c 7 + 16 * c 9) + 8) (putL (fs.length : Int) 2 false) := rfl
  rw [hW2]
  clear hWV hW2 hFill hl1 hl2
  have HWA : Hid (IntKind.u64.wrap ((c 7 + 16 * c 9) + 8) = (c 7 + 16 * c 9) + 8 ∧ IntKind.u64.wrap (fs.length : Int) = (fs.length : Int)) := Lib.hid ⟨IntWalk.u64_in _ (by omega), IntWalk.u64_in _ (by omega)⟩
  generalize writeV (fillV (fillV xs ((c 7 + 16 * c 9) + 8) (putL (fs.length : Int) 2 false)) (adrV ds) fs) ((c 7 + 16 * c 9) + 10) 4 (bothV ds 1) = ys at *
  generalize fillV (fillV xs ((c 7 + 16 * c 9) + 8) (putL (fs.length : Int) 2 false)) (adrV ds) fs = zs2 at *
  generalize fillV xs ((c 7 + 16 * c 9) + 8) (putL (fs.length : Int) 2 false) = zs1 at *
  generalize insideV xs.length ((c 7 + 16 * c 9) + 8) (putL (fs.length : Int) 2 false).length = b1v at *
  generalize putL (fs.length : Int) 2 false = ws at *
  generalize insideV zs1.length (adrV ds) fs.length = b2v at *
  generalize hf0 : ds.getD 10 0 = f0 at *
  have Hf0 := Lib.hid hf0
  have HD0 := Lib.hid (And.intro d0 v0)
  have H16 := Lib.hid h16
  have HWS := Lib.hid hws
  have HC0 := Lib.hid hc
  have HN := Lib.hid hN
  have HM := Lib.hid hM
  have HF := Lib.hid hF
  generalize hsz : lenV ds = sz at *
  generalize had : adrV ds = ad at *
  generalize hiv : insideV xs.length ad (fs.length : Int) = iv at *
  clear hC hN hM hF hl hc h6 hA hin ho hok h16 hd d0 v0 hf0 hpl hws q5 q6 q7 q8 r7 r8 r9 en hfl hsz had hiv
  have hf1 : decide (sz < (fs.length : Int)) = false ∧ iv = true := by
    rw [Bool.or_eq_false_iff] at hf
    exact ⟨hf.1, by simpa using hf.2⟩
  clear hf
  obtain ⟨d3, rfl⟩ := hf1
  go_enter Try.func28, Try.ntmps28
  go_upto_region 1 with fail
  have kN : Blk ((((w.alloc (.cells (ncA c (.slice a1 6 j)) 25)).alloc (.cells #[.slice a n k] 27)).alloc (.cells zeroN 25)).alloc (.cells #[.slice none 0 0] 27)) w.heap.size (ncA c (.slice a1 6 j)) 25 := (((Blk.new w (ncA c (.slice a1 6 j)) 25 _ rfl).alloc (.cells #[.slice a n k] 27)).alloc (.cells zeroN 25)).alloc (.cells #[.slice none 0 0] 27)
  have kM : Blk ((((w.alloc (.cells (ncA c (.slice a1 6 j)) 25)).alloc (.cells #[.slice a n k] 27)).alloc (.cells zeroN 25)).alloc (.cells #[.slice none 0 0] 27)) (w.heap.size + 1) #[.slice a n k] 27 := ((Blk.new (w.alloc (.cells (ncA c (.slice a1 6 j)) 25)) #[.slice a n k] 27 _ (by simp)).alloc (.cells zeroN 25)).alloc (.cells #[.slice none 0 0] 27)
  have kR : Blk ((((w.alloc (.cells (ncA c (.slice a1 6 j)) 25)).alloc (.cells #[.slice a n k] 27)).alloc (.cells zeroN 25)).alloc (.cells #[.slice none 0 0] 27)) (w.heap.size + 2) zeroN 25 := (Blk.new ((w.alloc (.cells (ncA c (.slice a1 6 j)) 25)).alloc (.cells #[.slice a n k] 27)) zeroN 25 _ (by simp)).alloc (.cells #[.slice none 0 0] 27)
  have kQ : Blk ((((w.alloc (.cells (ncA c (.slice a1 6 j)) 25)).alloc (.cells #[.slice a n k] 27)).alloc (.cells zeroN 25)).alloc (.cells #[.slice none 0 0] 27)) (w.heap.size + 3) #[.slice none 0 0] 27 := Blk.new (((w.alloc (.cells (ncA c (.slice a1 6 j)) 25)).alloc (.cells #[.slice a n k] 27)).alloc (.cells zeroN 25)) #[.slice none 0 0] 27 _ (by simp)
  have g0 : Grew w ((((w.alloc (.cells (ncA c (.slice a1 6 j)) 25)).alloc (.cells #[.slice a n k] 27)).alloc (.cells zeroN 25)).alloc (.cells #[.slice none 0 0] 27)) := ((((Grew.refl w).alloc (.cells (ncA c (.slice a1 6 j)) 25)).alloc (.cells #[.slice a n k] 27)).alloc (.cells zeroN 25)).alloc (.cells #[.slice none 0 0] 27)
  generalize ((((w.alloc (.cells (ncA c (.slice a1 6 j)) 25)).alloc (.cells #[.slice a n k] 27)).alloc (.cells zeroN 25)).alloc (.cells #[.slice none 0 0] 27)) = w0 at *
  have lN : w.heap.size ≤ w.heap.size := by omega
  have lM : w.heap.size ≤ (w.heap.size + 1) := by omega
  have lR : w.heap.size ≤ (w.heap.size + 2) := by omega
  have lQ : w.heap.size ≤ (w.heap.size + 3) := by omega
  have nNM : w.heap.size ≠ (w.heap.size + 1) := by omega
  have nNR : w.heap.size ≠ (w.heap.size + 2) := by omega
  have nNQ : w.heap.size ≠ (w.heap.size + 3) := by omega
  have nMN : (w.heap.size + 1) ≠ w.heap.size := by omega
  have nMR : (w.heap.size + 1) ≠ (w.heap.size + 2) := by omega
  have nMQ : (w.heap.size + 1) ≠ (w.heap.size + 3) := by omega
  have nRN : (w.heap.size + 2) ≠ w.heap.size := by omega
  have nRM : (w.heap.size + 2) ≠ (w.heap.size + 1) := by omega
  have nRQ : (w.heap.size + 2) ≠ (w.heap.size + 3) := by omega
  have nQN : (w.heap.size + 3) ≠ w.heap.size := by omega
  have nQM : (w.heap.size + 3) ≠ (w.heap.size + 1) := by omega
  have nQR : (w.heap.size + 3) ≠ (w.heap.size + 2) := by omega
  generalize (w.heap.size + 3) = Q at *
  generalize (w.heap.size + 2) = R at *
  generalize (w.heap.size + 1) = M at *
  generalize hZ : w.heap.size = N at *
  have HZ := Lib.hid hZ
  clear hZ
  have LN : Hid (w.heap.size ≤ N) := Lib.hid (by rw [HZ.out]; exact lN)
  have LM : Hid (w.heap.size ≤ M) := Lib.hid (by rw [HZ.out]; exact lM)
  have LR : Hid (w.heap.size ≤ R) := Lib.hid (by rw [HZ.out]; exact lR)
  have LQ : Hid (w.heap.size ≤ Q) := Lib.hid (by rw [HZ.out]; exact lQ)
  go_wp2_with (refine ld_nc rfl (.tmp 3) rfl _ rfl kN (by rfl) ?_)
  refine (HC.out _).mono ?_
  rintro e w1 ⟨rfl, g1⟩
  have kN1 := kN.grew g1
  have kM1 := kM.grew g1
  have kR1 := kR.grew g1
  have kQ1 := kQ.grew g1
  replace g1 := g0.trans g1
  clear kN kM kR kQ g0
  have y0 : w1.cell? ⟨N, 0, none⟩ = some (.int .i64 (c 0)) := kN1.cell 0
  go_wp2_with (refine lw_nc (by rfl) (.tmp 3) rfl _ rfl kN1 (by rfl) ?_)
  refine (HWa.out _ (HN.out.grew g1) (HF.out.grew g1)).mono ?_
  rintro e w2 ⟨rfl, g2⟩
  replace kN1 := kN1.grew g2
  replace kM1 := kM1.grew g2
  replace kR1 := kR1.grew g2
  replace kQ1 := kQ1.grew g2
  replace g1 := g1.trans g2
  clear g2 y0
  have y7 : w2.cell? ⟨N, 7, none⟩ = some (.int .u64 (c 7)) := kN1.cell 7
  have y9 : w2.cell? ⟨N, 9, none⟩ = some (.int .i64 (c 9)) := kN1.cell 9
  have y10 : w2.cell? ⟨N, 10, none⟩ = some (.int .i64 (c 10)) := kN1.cell 10
  go_upto_region 6 with fail
  clear q2 e2 qw u0 u9 y9 y10 y7 HWa q1 q3 q4
  go_wp2_with (refine ld_rm rfl (.tmp 4) rfl _ rfl kM1 (by rfl) ?_)
  refine (hBy.out _ (HM.out.grew g1)).mono ?_
  rintro e w3 ⟨u, rfl, HB, g2⟩
  obtain ⟨ub, uk, rfl, hx1, hx2⟩ := HB.shape
  clear hx1 hx2
  replace kN1 := kN1.grew g2
  replace kM1 := kM1.grew g2
  replace kR1 := kR1.grew g2
  replace kQ1 := kQ1.grew g2
  replace g1 := g1.trans g2
  clear g2 hBy
  obtain ⟨b1, o1, eb1, c10, l10⟩ := HB.at 10 (by rw [H16.out]; decide) _ Hf0.out
  subst eb1
  obtain ⟨d0, v0⟩ := HD0.out
  have h10 : (10 : Int) < (ds.length : Int) := by rw [H16.out]; decide
  go_upto_region 12 with fail
  clear c10 l10 d0 v0 h10
  have y8 : w3.cell? ⟨N, 8, none⟩ = some (.int .i64 (c 8)) := kN1.cell 8
  have y9 : w3.cell? ⟨N, 9, none⟩ = some (.int .i64 (c 9)) := kN1.cell 9
  have f9 := kN1.free 9
  obtain ⟨q5, q6, q7, q8⟩ := HQ4.out
  go_upto_region 13 with fail
  have kN2 := kN1.nc (by decide : 9 < 13) (by decide) (by decide) ((c 9 + 1) % c 8)
  have o5 := Only.set w3 N 9 (.int .i64 ((c 9 + 1) % c 8))
  have kM2 := kM1.only o5 nMN
  have kR2 := kR1.only o5 nRN
  have kQ2 := kQ1.only o5 nQN
  have HB2 := HB.only o5 kN1 (nb_nc _ _ _ _)
  have g2 : Grew w _ := o5.grew g1 LN.out
  clear y8 y9 f9 q5 q6 q7 q8 kN1 kM1 kR1 kQ1 g1 o5 HB HQ4
  generalize (w3.setCell ⟨N, 9, none⟩ (.int .i64 ((c 9 + 1) % c 8))) = w4 at *
  replace kN2 : Blk w4 N (ncA (headr c) (.slice a1 6 j)) 25 := kN2
  obtain ⟨p8, q8, HL8, hx8, hr8, hy8, hz8⟩ := HB2.run_cut (lo := 8) (hi := 10) (by decide) (by rw [H16.out]; decide)
  obtain ⟨p0, q0, HL0, hx0, hy0, hr0, hz0⟩ := HB2.run_cut (lo := 0) (hi := 8) (by decide) (by rw [H16.out]; decide)
  replace hr0 := hr0 rfl
  have HR8 : ∀ w', (Instr.sliceAt 23 (.slice (some ⟨b1, o1, none⟩) ds.length uk) (some (.int .i64 8)) (some (.int .i64 10)) none).run Try.prog w' = .ok (.slice p8 2 q8) w' := fun w' => hr8 .i64 .i64 w'
  have HR0 : ∀ w', (Instr.sliceAt 23 (.slice (some ⟨b1, o1, none⟩) ds.length uk) none (some (.int .i64 8)) none).run Try.prog w' = .ok (.slice p0 8 q0) w' := fun w' => hr0 .i64 w'
  have HL0 : Hid (Buf w4 (.slice p0 8 q0) (cutL ds 0 8)) := Lib.hid HL0
  have HL8 : Hid (Buf w4 (.slice p8 2 q8) (cutL ds 8 10)) := Lib.hid HL8
  have HB3 := Lib.hid HB2
  clear hr8 hr0 HB2 hx8 hy8 hz8 hx0 hy0 hz0
  have hws := HWS.out
  refine region_over (by kernel_rfl) (by kernel_rfl) ?_
  repeat (first | go_big_quiet_step ((go_at_call 40; first | with_reducible exact over_bk (hG8.out _ _ (HL8.out.grew (Over.g _))) | with_reducible exact over_bk (hG0.out _ _ (HL0.out.grew (Over.g _))))))
  refine wpQuiet_nil ?_
  intro z
  have kN3 := kN2.over z
  have kM3 := kM2.over z
  have kR3 := kR2.over z
  have kQ3 := kQ2.over z
  have HB4 := Lib.hid (HB3.out.grew z.g)
  have g3 := g2.trans z.g
  clear kN2 kM2 kR2 kQ2 HB3 g2 HL0 HL8 HR0 HR8 hws hG8 hG0 HWS
  generalize z.w = w5 at *
  clear z
  go_wp2_with (refine lw_rmw (by rfl) (.tmp 4) rfl _ rfl kM3 (by rfl) ?_)
  refine (hIn.out _).mono ?_
  rintro e wi ⟨rfl, gi⟩
  replace kN3 := kN3.grew gi
  replace kM3 := kM3.grew gi
  replace kR3 := kR3.grew gi
  replace kQ3 := kQ3.grew gi
  replace HB4 := Lib.hid (HB4.out.grew gi)
  replace g3 := g3.trans gi
  clear gi
  go_upto_region 16 with fail
  have wa8 := HWA.out.1
  have wfl := HWA.out.2
  refine wp_region_held_drew (S := fun w' => Grew wi w') (by kernel_rfl) ((Grew.refl wi).drew1) (fun hHeld => ?_)
  replace hHeld : Grew wi wi.drew := hHeld
  generalize wi.drew = wq0 at *
  refine wpAnyH_take (i := 0) (v := (.agg #[.slice a n k])) rfl (by kernel_rfl) (by kernel_rfl) (by kernel_rfl) (fun _ _ _ h => h) (yl_rm rfl (by rfl) (by rfl) fun _ h => kM3.grew h) hHeld ?_
  try simp only [List.getElem_toArray, List.getElem_cons_succ, List.getElem_cons_zero, Act.put, List.setIfInBounds_toArray, List.set_cons_zero, List.set_cons_succ]
  refine wpAnyH_take (i := 1) (v := ?_) rfl (by kernel_rfl) (by kernel_rfl) (by kernel_rfl) (fun _ _ _ h => h) (Or.inl ⟨by rfl, ?_⟩) hHeld ?_
  rotate_left
  · intro wq hSw
    replace hSw : Grew wi wq := hSw
    go_simp
    try with_reducible rfl
  try simp only [List.getElem_toArray, List.getElem_cons_succ, List.getElem_cons_zero, Act.put, List.setIfInBounds_toArray, List.set_cons_zero, List.set_cons_succ]
  refine wpAnyH_take (i := 2) (v := ?_) rfl (by kernel_rfl) (by kernel_rfl) (by kernel_rfl) (fun _ _ _ h => h) (Or.inl ⟨by rfl, ?_⟩) hHeld ?_
  rotate_left
  · intro wq hSw
    replace hSw : Grew wi wq := hSw
    go_simp
    try with_reducible rfl
  try simp only [List.getElem_toArray, List.getElem_cons_succ, List.getElem_cons_zero, Act.put, List.setIfInBounds_toArray, List.set_cons_zero, List.set_cons_succ]
  refine wpAnyH_take (i := 3) (v := ?_) rfl (by kernel_rfl) (by kernel_rfl) (by kernel_rfl) (fun _ _ _ h => h) (Or.inl ⟨by rfl, ?_⟩) hHeld ?_
  rotate_left
  · intro wq hSw
    replace hSw : Grew wi wq := hSw
    go_simp
    try with_reducible rfl
  try simp only [List.getElem_toArray, List.getElem_cons_succ, List.getElem_cons_zero, Act.put, List.setIfInBounds_toArray, List.set_cons_zero, List.set_cons_succ]
  refine wpAnyH_take (i := 4) (v := ?_) rfl (by kernel_rfl) (by kernel_rfl) (by kernel_rfl) (fun _ _ _ h => h) (Or.inl ⟨by rfl, ?_⟩) hHeld ?_
  rotate_left
  · intro wq hSw
    replace hSw : Grew wi wq := hSw
    go_simp
    try with_reducible rfl
  try simp only [List.getElem_toArray, List.getElem_cons_succ, List.getElem_cons_zero, Act.put, List.setIfInBounds_toArray, List.set_cons_zero, List.set_cons_succ]
  refine wpAnyH_take (i := 5) (v := ?_) rfl (by kernel_rfl) (by kernel_rfl) (by kernel_rfl) (fun _ _ _ h => h) (Or.inl ⟨by rfl, ?_⟩) hHeld ?_
  rotate_left
  · intro wq hSw
    replace hSw : Grew wi wq := hSw
    go_simp
    try with_reducible rfl
  try simp only [List.getElem_toArray, List.getElem_cons_succ, List.getElem_cons_zero, Act.put, List.setIfInBounds_toArray, List.set_cons_zero, List.set_cons_succ]
  refine wpAnyH_ready (rs := [6, 11]) (by kernel_rfl) (by simp) ?_
  refine AllReadyH.cons rfl (fun K hK => ?_) (AllReadyH.cons rfl (fun K hK => ?_) AllReadyH.nil)
  · go_simp
    refine Calls.mono (hPu.out _) ?_
    rintro e w6 ⟨pb, pk, rfl, h5, g5⟩
    refine hK.out _ _ (hHeld.trans g5) (fun hHeld => ?_)
    clear hK K
    clear g5
    try simp only [List.getElem_toArray, List.getElem_cons_succ, List.getElem_cons_zero, Act.put, List.setIfInBounds_toArray, List.set_cons_zero, List.set_cons_succ]
    refine wpAnyH_ready (rs := [7, 11]) (by kernel_rfl) (by simp) ?_
    refine AllReadyH.cons rfl (fun K hK => ?_) (AllReadyH.cons rfl (fun K hK => ?_) AllReadyH.nil)
    · go_simp
      refine Calls.mono (hF1.out _ _ _ (HM.out.grew (g3.trans hHeld)) h5.out) ?_
      rintro e w7 ⟨qb, ql, qk, rfl, h6, g5⟩
      refine hK.out _ _ (hHeld.trans g5) (fun hHeld => ?_)
      clear hK K
      clear h5
      clear g5
      try simp only [List.getElem_toArray, List.getElem_cons_succ, List.getElem_cons_zero, Act.put, List.setIfInBounds_toArray, List.set_cons_zero, List.set_cons_succ]
      refine wpAnyH_take (i := 8) (v := ?_) rfl (by kernel_rfl) (by kernel_rfl) (by kernel_rfl) (fun _ _ _ h => h) (Or.inl ⟨by rfl, ?_⟩) hHeld ?_
      rotate_left
      · intro wq hSw
        replace hSw : Grew wi wq := hSw
        go_simp
        try with_reducible rfl
      try simp only [List.getElem_toArray, List.getElem_cons_succ, List.getElem_cons_zero, Act.put, List.setIfInBounds_toArray, List.set_cons_zero, List.set_cons_succ]
      refine wpAnyH_take (i := 9) (v := ?_) rfl (by kernel_rfl) (by kernel_rfl) (by kernel_rfl) (fun _ _ _ h => h) (Or.inl ⟨by rfl, ?_⟩) hHeld ?_
      rotate_left
      · intro wq hSw
        replace hSw : Grew wi wq := hSw
        go_simp
        try with_reducible rfl
      try simp only [List.getElem_toArray, List.getElem_cons_succ, List.getElem_cons_zero, Act.put, List.setIfInBounds_toArray, List.set_cons_zero, List.set_cons_succ]
      refine wpAnyH_take (i := 10) (v := ?_) rfl (by kernel_rfl) (by kernel_rfl) (by kernel_rfl) (fun _ _ _ h => h) (Or.inl ⟨by rfl, ?_⟩) hHeld ?_
      rotate_left
      · intro wq hSw
        replace hSw : Grew wi wq := hSw
        go_simp
        try with_reducible rfl
      try simp only [List.getElem_toArray, List.getElem_cons_succ, List.getElem_cons_zero, Act.put, List.setIfInBounds_toArray, List.set_cons_zero, List.set_cons_succ]
      refine wpAnyH_ready (rs := [11]) (by kernel_rfl) (by simp) ?_
      refine AllReadyH.cons rfl (fun K hK => ?_) AllReadyH.nil
      go_simp
      have lG := hHeld.size
      refine hK.out _ _ (hHeld.alloc _) (fun hHeld => ?_)
      clear hK K
      have kG : Blk (w7.alloc (.cells #[.slice none 0 0] 27)) w7.heap.size #[.slice none 0 0] 27 := Blk.new _ _ _ _ rfl
      replace h6 := Lib.hid (h6.out.grew ((Grew.refl w7).alloc (.cells #[.slice none 0 0] 27)))
      generalize (w7.alloc (.cells #[.slice none 0 0] 27)) = wA at *
      generalize w7.heap.size = G at *
      try simp only [List.getElem_toArray, List.getElem_cons_succ, List.getElem_cons_zero, Act.put, List.setIfInBounds_toArray, List.set_cons_zero, List.set_cons_succ]
      refine wpAnyH_ready (rs := [12]) (by kernel_rfl) (by simp) ?_
      refine AllReadyH.cons rfl (fun K hK => ?_) AllReadyH.nil
      refine step_st_rm rfl (.tmp 14) (.tmp 125) rfl rfl kG rfl (by rfl) (by rfl) ⟨_, _, _, rfl⟩ ?_
      intro w8 kG2 oG
      have gS := oG.grew hHeld lG
      refine hK.out _ _ (gS) (fun hHeld => ?_)
      clear hK K
      have HZ1 := Lib.hid (h6.out.only oG kG (nb_one _ (fun x h => by cases h)))
      clear h6 kG oG gS
      have kG := kG2
      clear kG2
      try simp only [List.getElem_toArray, List.getElem_cons_succ, List.getElem_cons_zero, Act.put, List.setIfInBounds_toArray, List.set_cons_zero, List.set_cons_succ]
      refine wpAnyH_take (i := 13) (v := ?_) rfl (by kernel_rfl) (by kernel_rfl) (by kernel_rfl) (fun _ _ _ h => h) (Or.inl ⟨by rfl, ?_⟩) hHeld ?_
      rotate_left
      · intro wq hSw
        replace hSw : Grew wi wq := hSw
        go_simp
        try with_reducible rfl
      try simp only [List.getElem_toArray, List.getElem_cons_succ, List.getElem_cons_zero, Act.put, List.setIfInBounds_toArray, List.set_cons_zero, List.set_cons_succ]
      refine wpAnyH_done (by kernel_rfl) ?_ _
      try simp only [List.getElem_toArray, List.getElem_cons_succ, List.getElem_cons_zero, Act.put, List.setIfInBounds_toArray, List.set_cons_zero, List.set_cons_succ]
      have LG : Hid (w.heap.size ≤ G) := Lib.hid (Nat.le_trans g3.size lG)
      have nNG : N ≠ G := Nat.ne_of_lt (Nat.lt_of_lt_of_le kN3.lt lG)
      have nRG : R ≠ G := Nat.ne_of_lt (Nat.lt_of_lt_of_le kR3.lt lG)
      have nQG : Q ≠ G := Nat.ne_of_lt (Nat.lt_of_lt_of_le kQ3.lt lG)
      replace kN3 := kN3.grew hHeld
      replace kR3 := kR3.grew hHeld
      replace kQ3 := kQ3.grew hHeld
      replace HB4 := Lib.hid (HB4.out.grew hHeld)
      replace g3 : Grew w w8 := g3.trans hHeld
      clear hHeld lG kM3 wa8 wfl
      generalize w8 = w7 at *
      go_upto_region 17 with fail
      go_wp2_with (refine ld_rm rfl (.tmp 14) rfl _ rfl kG (by rfl) ?_)
      refine (hF2.out _ _ _ HZ1.out (HF.out.grew g3)).mono ?_
      rintro e w8 ⟨sb, sl, sk, rfl, HS2, gs⟩
      replace kN3 := kN3.grew gs
      replace kG := kG.grew gs
      replace kR3 := kR3.grew gs
      replace kQ3 := kQ3.grew gs
      replace HB4 := Lib.hid (HB4.out.grew gs)
      replace g3 := g3.trans gs
      clear gs HZ1
      go_upto_region 18 with (refine st_rm rfl (.tmp 14) (.tmp 132) rfl rfl kG rfl (by rfl) (by rfl) ⟨_, _, _, rfl⟩ ?_; intro w9 kG2 oG)
      replace kN3 := kN3.only oG nNG
      replace kR3 := kR3.only oG nRG
      replace kQ3 := kQ3.only oG nQG
      replace HB4 := Lib.hid (HB4.out.only oG kG (nb_one _ (fun x h => by cases h)))
      replace HS2 := Lib.hid (HS2.out.only oG kG (nb_one _ (fun x h => by cases h)))
      replace g3 : Grew w w9 := oG.grew g3 LG.out
      clear oG kG
      have hr1 := HC0.out.r1
      have e1 : bits .or .i64 (c 1) 2 = orB 2 (c 1) := or_i64_2 hr1.1 hr1.2
      clear hr1
      have y1 : w9.cell? ⟨N, 1, none⟩ = some (.int .i64 (c 1)) := kN3.cell 1
      have f1 := kN3.free 1
      go_upto_region 19 with fail
      have kN4 := kN3.nc (by decide : 1 < 13) (by decide) (by decide) (orB 2 (c 1))
      have o6 := Only.set w9 N 1 (.int .i64 (orB 2 (c 1)))
      have kG4 := kG2.only o6 nNG.symm
      have kRc := (kR3.only o6 nRN).drew
      have kQc := (kQ3.only o6 nQN).drew
      have HBc := Lib.hid (HB4.out.only o6 kN3 (nb_nc _ _ _ _)).drew
      have HSc := Lib.hid (HS2.out.only o6 kN3 (nb_nc _ _ _ _)).drew
      have gc : Grew w _ := (o6.grew g3 LN.out).drew1
      have nGR := nRG.symm
      have nGQ := nQG.symm
      clear y1 f1 e1 kN3 kG2 kR3 kQ3 g3 HB4 HS2 o6
      generalize (w9.setCell ⟨N, 1, none⟩ (.int .i64 (orB 2 (c 1)))) = w10 at *
      refine wp_region_held_drew (S := fun w' => Blk w' N (ncA (upd (headr c) 1 (orB 2 (c 1))) (.slice a1 6 j)) 25 ∧ Blk w' G #[.slice sb sl sk] 27) (by kernel_rfl) (⟨kN4.drew, kG4.drew⟩) (fun hHeld => ?_)
      replace hHeld : Blk w10.drew N (ncA (upd (headr c) 1 (orB 2 (c 1))) (.slice a1 6 j)) 25 ∧ Blk w10.drew G #[.slice sb sl sk] 27 := hHeld
      generalize w10.drew = wq10 at *
      refine wpAnyH_take (i := 0) (v := (ncV (upd (headr c) 1 (orB 2 (c 1))) (.slice a1 6 j))) rfl (by kernel_rfl) (by kernel_rfl) (by kernel_rfl) (fun _ _ _ h => h) (yl_nc rfl (by rfl) (by rfl) fun _ h => h.1) hHeld ?_
      try simp only [List.getElem_toArray, List.getElem_cons_succ, List.getElem_cons_zero, Act.put, List.setIfInBounds_toArray, List.set_cons_zero, List.set_cons_succ]
      refine wpAnyH_take (i := 1) (v := (.agg #[.slice sb sl sk])) rfl (by kernel_rfl) (by kernel_rfl) (by kernel_rfl) (fun _ _ _ h => h) (yl_rm rfl (by rfl) (by rfl) fun _ h => h.2) hHeld ?_
      try simp only [List.getElem_toArray, List.getElem_cons_succ, List.getElem_cons_zero, Act.put, List.setIfInBounds_toArray, List.set_cons_zero, List.set_cons_succ]
      refine wpAnyH_take (i := 2) (v := ?_) rfl (by kernel_rfl) (by kernel_rfl) (by kernel_rfl) (fun _ _ _ h => h) (Or.inl ⟨by rfl, ?_⟩) hHeld ?_
      rotate_left
      · intro wq hSw
        replace hSw : Blk wq N (ncA (upd (headr c) 1 (orB 2 (c 1))) (.slice a1 6 j)) 25 ∧ Blk wq G #[.slice sb sl sk] 27 := hSw
        go_simp
        try with_reducible rfl
      try simp only [List.getElem_toArray, List.getElem_cons_succ, List.getElem_cons_zero, Act.put, List.setIfInBounds_toArray, List.set_cons_zero, List.set_cons_succ]
      refine wpAnyH_take (i := 3) (v := ?_) rfl (by kernel_rfl) (by kernel_rfl) (by kernel_rfl) (fun _ _ _ h => h) (Or.inl ⟨by rfl, ?_⟩) hHeld ?_
      rotate_left
      · intro wq hSw
        replace hSw : Blk wq N (ncA (upd (headr c) 1 (orB 2 (c 1))) (.slice a1 6 j)) 25 ∧ Blk wq G #[.slice sb sl sk] 27 := hSw
        go_simp
        try with_reducible rfl
      try simp only [List.getElem_toArray, List.getElem_cons_succ, List.getElem_cons_zero, Act.put, List.setIfInBounds_toArray, List.set_cons_zero, List.set_cons_succ]
      refine wpAnyH_ready (rs := [4]) (by kernel_rfl) (by simp) ?_
      refine AllReadyH.cons rfl (fun K hK => ?_) AllReadyH.nil
      go_simp
      refine Calls.mono (hDo.out _ _ _ _ _ _ HSc.out HBc.out) ?_
      rintro e wb2 ⟨ya, yn, yk, rfl, HY, gb⟩
      refine hK.out _ _ (⟨hHeld.1.grew gb, hHeld.2.grew gb⟩) (fun hHeld => ?_)
      clear hK K
      replace kRc := kRc.grew gb
      replace kQc := kQc.grew gb
      replace gc := gc.trans gb
      clear gb HBc HSc
      try simp only [List.getElem_toArray, List.getElem_cons_succ, List.getElem_cons_zero, Act.put, List.setIfInBounds_toArray, List.set_cons_zero, List.set_cons_succ]
      refine wpAnyH_ready (rs := [5]) (by kernel_rfl) (by simp) ?_
      refine AllReadyH.cons rfl (fun K hK => ?_) AllReadyH.nil
      refine step_st_nc rfl (.tmp 6) (.tmp 138) rfl rfl (upd (headr c) 1 (orB 2 (c 1))) kRc rfl (by rfl) (by rfl) ⟨_, _, _, rfl⟩ ?_
      intro wd kRd od
      refine hK.out _ _ (⟨hHeld.1.only od nNR, hHeld.2.only od nGR⟩) (fun hHeld => ?_)
      clear hK K
      have kQd := kQc.only od nQR
      have HYd := Lib.hid (HY.out.only od kRc nb_zn)
      have gd : Grew w wd := od.grew gc LR.out
      clear kRc kQc gc od HY
      try simp only [List.getElem_toArray, List.getElem_cons_succ, List.getElem_cons_zero, Act.put, List.setIfInBounds_toArray, List.set_cons_zero, List.set_cons_succ]
      refine wpAnyH_ready (rs := [6]) (by kernel_rfl) (by simp) ?_
      refine AllReadyH.cons rfl (fun K hK => ?_) AllReadyH.nil
      refine step_st_rm rfl (.tmp 7) (.tmp 142) rfl rfl kQd rfl (by rfl) (by rfl) ⟨_, _, _, rfl⟩ ?_
      intro we kQe oe
      refine hK.out _ _ (⟨hHeld.1.only oe nNQ, hHeld.2.only oe nGQ⟩) (fun hHeld => ?_)
      clear hK K
      have kRe := kRd.only oe nRQ
      have HYe := Lib.hid (HYd.out.only oe kQd (nb_one _ (fun x h => by cases h)))
      have ge : Grew w we := oe.grew gd LQ.out
      clear kRd kQd gd oe HYd
      try simp only [List.getElem_toArray, List.getElem_cons_succ, List.getElem_cons_zero, Act.put, List.setIfInBounds_toArray, List.set_cons_zero, List.set_cons_succ]
      refine wpAnyH_take (i := 7) (v := ?_) rfl (by kernel_rfl) (by kernel_rfl) (by kernel_rfl) (fun _ _ _ h => h) (Or.inl ⟨by rfl, ?_⟩) hHeld ?_
      rotate_left
      · intro wq hSw
        replace hSw : Blk wq N (ncA (upd (headr c) 1 (orB 2 (c 1))) (.slice a1 6 j)) 25 ∧ Blk wq G #[.slice sb sl sk] 27 := hSw
        go_simp
        try with_reducible rfl
      try simp only [List.getElem_toArray, List.getElem_cons_succ, List.getElem_cons_zero, Act.put, List.setIfInBounds_toArray, List.set_cons_zero, List.set_cons_succ]
      refine wpAnyH_done (by kernel_rfl) ?_ _
      try simp only [List.getElem_toArray, List.getElem_cons_succ, List.getElem_cons_zero, Act.put, List.setIfInBounds_toArray, List.set_cons_zero, List.set_cons_succ]
      go_wp2_with fail
      rw [or_headr c] at kRe
      exact bodyPost_ret (v := .tuple #[ncV (headr (upd c 1 (orB 2 (c 1)))) (.slice a1 6 j), .agg #[.slice ya yn yk], .bool true]) (results_3 (p := 6) (q := 7) (r := 8) Try.results28 _ _ R Q kRe kQe rfl rfl) rfl ⟨_, _, _, _, _, rfl, Lib.hid (HN.out.grew ge), HYe, ge⟩
    · go_simp
      have lG := hHeld.size
      refine hK.out _ _ (hHeld.alloc _) (fun hHeld => ?_)
      clear hK K
      have kG : Blk (w6.alloc (.cells #[.slice none 0 0] 27)) w6.heap.size #[.slice none 0 0] 27 := Blk.new _ _ _ _ rfl
      replace h5 := Lib.hid (h5.out.grew ((Grew.refl w6).alloc (.cells #[.slice none 0 0] 27)))
      generalize (w6.alloc (.cells #[.slice none 0 0] 27)) = wA at *
      generalize w6.heap.size = G at *
      try simp only [List.getElem_toArray, List.getElem_cons_succ, List.getElem_cons_zero, Act.put, List.setIfInBounds_toArray, List.set_cons_zero, List.set_cons_succ]
      refine wpAnyH_ready (rs := [7]) (by kernel_rfl) (by simp) ?_
      refine AllReadyH.cons rfl (fun K hK => ?_) AllReadyH.nil
      go_simp
      refine Calls.mono (hF1.out _ _ _ (HM.out.grew (g3.trans hHeld)) h5.out) ?_
      rintro e w7 ⟨qb, ql, qk, rfl, h6, g5⟩
      refine hK.out _ _ (hHeld.trans g5) (fun hHeld => ?_)
      clear hK K
      replace kG := kG.grew g5
      clear h5
      clear g5
      try simp only [List.getElem_toArray, List.getElem_cons_succ, List.getElem_cons_zero, Act.put, List.setIfInBounds_toArray, List.set_cons_zero, List.set_cons_succ]
      refine wpAnyH_take (i := 8) (v := ?_) rfl (by kernel_rfl) (by kernel_rfl) (by kernel_rfl) (fun _ _ _ h => h) (Or.inl ⟨by rfl, ?_⟩) hHeld ?_
      rotate_left
      · intro wq hSw
        replace hSw : Grew wi wq := hSw
        go_simp
        try with_reducible rfl
      try simp only [List.getElem_toArray, List.getElem_cons_succ, List.getElem_cons_zero, Act.put, List.setIfInBounds_toArray, List.set_cons_zero, List.set_cons_succ]
      refine wpAnyH_take (i := 9) (v := ?_) rfl (by kernel_rfl) (by kernel_rfl) (by kernel_rfl) (fun _ _ _ h => h) (Or.inl ⟨by rfl, ?_⟩) hHeld ?_
      rotate_left
      · intro wq hSw
        replace hSw : Grew wi wq := hSw
        go_simp
        try with_reducible rfl
      try simp only [List.getElem_toArray, List.getElem_cons_succ, List.getElem_cons_zero, Act.put, List.setIfInBounds_toArray, List.set_cons_zero, List.set_cons_succ]
      refine wpAnyH_take (i := 10) (v := ?_) rfl (by kernel_rfl) (by kernel_rfl) (by kernel_rfl) (fun _ _ _ h => h) (Or.inl ⟨by rfl, ?_⟩) hHeld ?_
      rotate_left
      · intro wq hSw
        replace hSw : Grew wi wq := hSw
        go_simp
        try with_reducible rfl
      try simp only [List.getElem_toArray, List.getElem_cons_succ, List.getElem_cons_zero, Act.put, List.setIfInBounds_toArray, List.set_cons_zero, List.set_cons_succ]
      refine wpAnyH_ready (rs := [12]) (by kernel_rfl) (by simp) ?_
      refine AllReadyH.cons rfl (fun K hK => ?_) AllReadyH.nil
      refine step_st_rm rfl (.tmp 14) (.tmp 125) rfl rfl kG rfl (by rfl) (by rfl) ⟨_, _, _, rfl⟩ ?_
      intro w8 kG2 oG
      have gS := oG.grew hHeld lG
      refine hK.out _ _ (gS) (fun hHeld => ?_)
      clear hK K
      have HZ1 := Lib.hid (h6.out.only oG kG (nb_one _ (fun x h => by cases h)))
      clear h6 kG oG gS
      have kG := kG2
      clear kG2
      try simp only [List.getElem_toArray, List.getElem_cons_succ, List.getElem_cons_zero, Act.put, List.setIfInBounds_toArray, List.set_cons_zero, List.set_cons_succ]
      refine wpAnyH_take (i := 13) (v := ?_) rfl (by kernel_rfl) (by kernel_rfl) (by kernel_rfl) (fun _ _ _ h => h) (Or.inl ⟨by rfl, ?_⟩) hHeld ?_
      rotate_left
      · intro wq hSw
        replace hSw : Grew wi wq := hSw
        go_simp
        try with_reducible rfl
      try simp only [List.getElem_toArray, List.getElem_cons_succ, List.getElem_cons_zero, Act.put, List.setIfInBounds_toArray, List.set_cons_zero, List.set_cons_succ]
      refine wpAnyH_done (by kernel_rfl) ?_ _
      try simp only [List.getElem_toArray, List.getElem_cons_succ, List.getElem_cons_zero, Act.put, List.setIfInBounds_toArray, List.set_cons_zero, List.set_cons_succ]
      have LG : Hid (w.heap.size ≤ G) := Lib.hid (Nat.le_trans g3.size lG)
      have nNG : N ≠ G := Nat.ne_of_lt (Nat.lt_of_lt_of_le kN3.lt lG)
      have nRG : R ≠ G := Nat.ne_of_lt (Nat.lt_of_lt_of_le kR3.lt lG)
      have nQG : Q ≠ G := Nat.ne_of_lt (Nat.lt_of_lt_of_le kQ3.lt lG)
      replace kN3 := kN3.grew hHeld
      replace kR3 := kR3.grew hHeld
      replace kQ3 := kQ3.grew hHeld
      replace HB4 := Lib.hid (HB4.out.grew hHeld)
      replace g3 : Grew w w8 := g3.trans hHeld
      clear hHeld lG kM3 wa8 wfl
      generalize w8 = w7 at *
      go_upto_region 17 with fail
      go_wp2_with (refine ld_rm rfl (.tmp 14) rfl _ rfl kG (by rfl) ?_)
      refine (hF2.out _ _ _ HZ1.out (HF.out.grew g3)).mono ?_
      rintro e w8 ⟨sb, sl, sk, rfl, HS2, gs⟩
      replace kN3 := kN3.grew gs
      replace kG := kG.grew gs
      replace kR3 := kR3.grew gs
      replace kQ3 := kQ3.grew gs
      replace HB4 := Lib.hid (HB4.out.grew gs)
      replace g3 := g3.trans gs
      clear gs HZ1
      go_upto_region 18 with (refine st_rm rfl (.tmp 14) (.tmp 132) rfl rfl kG rfl (by rfl) (by rfl) ⟨_, _, _, rfl⟩ ?_; intro w9 kG2 oG)
      replace kN3 := kN3.only oG nNG
      replace kR3 := kR3.only oG nRG
      replace kQ3 := kQ3.only oG nQG
      replace HB4 := Lib.hid (HB4.out.only oG kG (nb_one _ (fun x h => by cases h)))
      replace HS2 := Lib.hid (HS2.out.only oG kG (nb_one _ (fun x h => by cases h)))
      replace g3 : Grew w w9 := oG.grew g3 LG.out
      clear oG kG
      have hr1 := HC0.out.r1
      have e1 : bits .or .i64 (c 1) 2 = orB 2 (c 1) := or_i64_2 hr1.1 hr1.2
      clear hr1
      have y1 : w9.cell? ⟨N, 1, none⟩ = some (.int .i64 (c 1)) := kN3.cell 1
      have f1 := kN3.free 1
      go_upto_region 19 with fail
      have kN4 := kN3.nc (by decide : 1 < 13) (by decide) (by decide) (orB 2 (c 1))
      have o6 := Only.set w9 N 1 (.int .i64 (orB 2 (c 1)))
      have kG4 := kG2.only o6 nNG.symm
      have kRc := (kR3.only o6 nRN).drew
      have kQc := (kQ3.only o6 nQN).drew
      have HBc := Lib.hid (HB4.out.only o6 kN3 (nb_nc _ _ _ _)).drew
      have HSc := Lib.hid (HS2.out.only o6 kN3 (nb_nc _ _ _ _)).drew
      have gc : Grew w _ := (o6.grew g3 LN.out).drew1
      have nGR := nRG.symm
      have nGQ := nQG.symm
      clear y1 f1 e1 kN3 kG2 kR3 kQ3 g3 HB4 HS2 o6
      generalize (w9.setCell ⟨N, 1, none⟩ (.int .i64 (orB 2 (c 1)))) = w10 at *
      refine wp_region_held_drew (S := fun w' => Blk w' N (ncA (upd (headr c) 1 (orB 2 (c 1))) (.slice a1 6 j)) 25 ∧ Blk w' G #[.slice sb sl sk] 27) (by kernel_rfl) (⟨kN4.drew, kG4.drew⟩) (fun hHeld => ?_)
      replace hHeld : Blk w10.drew N (ncA (upd (headr c) 1 (orB 2 (c 1))) (.slice a1 6 j)) 25 ∧ Blk w10.drew G #[.slice sb sl sk] 27 := hHeld
      generalize w10.drew = wq10 at *
      refine wpAnyH_take (i := 0) (v := (ncV (upd (headr c) 1 (orB 2 (c 1))) (.slice a1 6 j))) rfl (by kernel_rfl) (by kernel_rfl) (by kernel_rfl) (fun _ _ _ h => h) (yl_nc rfl (by rfl) (by rfl) fun _ h => h.1) hHeld ?_
      try simp only [List.getElem_toArray, List.getElem_cons_succ, List.getElem_cons_zero, Act.put, List.setIfInBounds_toArray, List.set_cons_zero, List.set_cons_succ]
      refine wpAnyH_take (i := 1) (v := (.agg #[.slice sb sl sk])) rfl (by kernel_rfl) (by kernel_rfl) (by kernel_rfl) (fun _ _ _ h => h) (yl_rm rfl (by rfl) (by rfl) fun _ h => h.2) hHeld ?_
      try simp only [List.getElem_toArray, List.getElem_cons_succ, List.getElem_cons_zero, Act.put, List.setIfInBounds_toArray, List.set_cons_zero, List.set_cons_succ]
      refine wpAnyH_take (i := 2) (v := ?_) rfl (by kernel_rfl) (by kernel_rfl) (by kernel_rfl) (fun _ _ _ h => h) (Or.inl ⟨by rfl, ?_⟩) hHeld ?_
      rotate_left
      · intro wq hSw
        replace hSw : Blk wq N (ncA (upd (headr c) 1 (orB 2 (c 1))) (.slice a1 6 j)) 25 ∧ Blk wq G #[.slice sb sl sk] 27 := hSw
        go_simp
        try with_reducible rfl
      try simp only [List.getElem_toArray, List.getElem_cons_succ, List.getElem_cons_zero, Act.put, List.setIfInBounds_toArray, List.set_cons_zero, List.set_cons_succ]
      refine wpAnyH_take (i := 3) (v := ?_) rfl (by kernel_rfl) (by kernel_rfl) (by kernel_rfl) (fun _ _ _ h => h) (Or.inl ⟨by rfl, ?_⟩) hHeld ?_
      rotate_left
      · intro wq hSw
        replace hSw : Blk wq N (ncA (upd (headr c) 1 (orB 2 (c 1))) (.slice a1 6 j)) 25 ∧ Blk wq G #[.slice sb sl sk] 27 := hSw
        go_simp
        try with_reducible rfl
      try simp only [List.getElem_toArray, List.getElem_cons_succ, List.getElem_cons_zero, Act.put, List.setIfInBounds_toArray, List.set_cons_zero, List.set_cons_succ]
      refine wpAnyH_ready (rs := [4]) (by kernel_rfl) (by simp) ?_
      refine AllReadyH.cons rfl (fun K hK => ?_) AllReadyH.nil
      go_simp
      refine Calls.mono (hDo.out _ _ _ _ _ _ HSc.out HBc.out) ?_
      rintro e wb2 ⟨ya, yn, yk, rfl, HY, gb⟩
      refine hK.out _ _ (⟨hHeld.1.grew gb, hHeld.2.grew gb⟩) (fun hHeld => ?_)
      clear hK K
      replace kRc := kRc.grew gb
      replace kQc := kQc.grew gb
      replace gc := gc.trans gb
      clear gb HBc HSc
      try simp only [List.getElem_toArray, List.getElem_cons_succ, List.getElem_cons_zero, Act.put, List.setIfInBounds_toArray, List.set_cons_zero, List.set_cons_succ]
      refine wpAnyH_ready (rs := [5]) (by kernel_rfl) (by simp) ?_
      refine AllReadyH.cons rfl (fun K hK => ?_) AllReadyH.nil
      refine step_st_nc rfl (.tmp 6) (.tmp 138) rfl rfl (upd (headr c) 1 (orB 2 (c 1))) kRc rfl (by rfl) (by rfl) ⟨_, _, _, rfl⟩ ?_
      intro wd kRd od
      refine hK.out _ _ (⟨hHeld.1.only od nNR, hHeld.2.only od nGR⟩) (fun hHeld => ?_)
      clear hK K
      have kQd := kQc.only od nQR
      have HYd := Lib.hid (HY.out.only od kRc nb_zn)
      have gd : Grew w wd := od.grew gc LR.out
      clear kRc kQc gc od HY
      try simp only [List.getElem_toArray, List.getElem_cons_succ, List.getElem_cons_zero, Act.put, List.setIfInBounds_toArray, List.set_cons_zero, List.set_cons_succ]
      refine wpAnyH_ready (rs := [6]) (by kernel_rfl) (by simp) ?_
      refine AllReadyH.cons rfl (fun K hK => ?_) AllReadyH.nil
      refine step_st_rm rfl (.tmp 7) (.tmp 142) rfl rfl kQd rfl (by rfl) (by rfl) ⟨_, _, _, rfl⟩ ?_
      intro we kQe oe
      refine hK.out _ _ (⟨hHeld.1.only oe nNQ, hHeld.2.only oe nGQ⟩) (fun hHeld => ?_)
      clear hK K
      have kRe := kRd.only oe nRQ
      have HYe := Lib.hid (HYd.out.only oe kQd (nb_one _ (fun x h => by cases h)))
      have ge : Grew w we := oe.grew gd LQ.out
      clear kRd kQd gd oe HYd
      try simp only [List.getElem_toArray, List.getElem_cons_succ, List.getElem_cons_zero, Act.put, List.setIfInBounds_toArray, List.set_cons_zero, List.set_cons_succ]
      refine wpAnyH_take (i := 7) (v := ?_) rfl (by kernel_rfl) (by kernel_rfl) (by kernel_rfl) (fun _ _ _ h => h) (Or.inl ⟨by rfl, ?_⟩) hHeld ?_
      rotate_left
      · intro wq hSw
        replace hSw : Blk wq N (ncA (upd (headr c) 1 (orB 2 (c 1))) (.slice a1 6 j)) 25 ∧ Blk wq G #[.slice sb sl sk] 27 := hSw
        go_simp
        try with_reducible rfl
      try simp only [List.getElem_toArray, List.getElem_cons_succ, List.getElem_cons_zero, Act.put, List.setIfInBounds_toArray, List.set_cons_zero, List.set_cons_succ]
      refine wpAnyH_done (by kernel_rfl) ?_ _
      try simp only [List.getElem_toArray, List.getElem_cons_succ, List.getElem_cons_zero, Act.put, List.setIfInBounds_toArray, List.set_cons_zero, List.set_cons_succ]
      go_wp2_with fail
      rw [or_headr c] at kRe
      exact bodyPost_ret (v := .tuple #[ncV (headr (upd c 1 (orB 2 (c 1)))) (.slice a1 6 j), .agg #[.slice ya yn yk], .bool true]) (results_3 (p := 6) (q := 7) (r := 8) Try.results28 _ _ R Q kRe kQe rfl rfl) rfl ⟨_, _, _, _, _, rfl, Lib.hid (HN.out.grew ge), HYe, ge⟩
  · go_simp
    have lG := hHeld.size
    refine hK.out _ _ (hHeld.alloc _) (fun hHeld => ?_)
    clear hK K
    have kG : Blk (wq0.alloc (.cells #[.slice none 0 0] 27)) wq0.heap.size #[.slice none 0 0] 27 := Blk.new _ _ _ _ rfl
    generalize (wq0.alloc (.cells #[.slice none 0 0] 27)) = wA at *
    generalize wq0.heap.size = G at *
    try simp only [List.getElem_toArray, List.getElem_cons_succ, List.getElem_cons_zero, Act.put, List.setIfInBounds_toArray, List.set_cons_zero, List.set_cons_succ]
    refine wpAnyH_ready (rs := [6]) (by kernel_rfl) (by simp) ?_
    refine AllReadyH.cons rfl (fun K hK => ?_) AllReadyH.nil
    go_simp
    refine Calls.mono (hPu.out _) ?_
    rintro e w6 ⟨pb, pk, rfl, h5, g5⟩
    refine hK.out _ _ (hHeld.trans g5) (fun hHeld => ?_)
    clear hK K
    replace kG := kG.grew g5
    clear g5
    try simp only [List.getElem_toArray, List.getElem_cons_succ, List.getElem_cons_zero, Act.put, List.setIfInBounds_toArray, List.set_cons_zero, List.set_cons_succ]
    refine wpAnyH_ready (rs := [7]) (by kernel_rfl) (by simp) ?_
    refine AllReadyH.cons rfl (fun K hK => ?_) AllReadyH.nil
    go_simp
    refine Calls.mono (hF1.out _ _ _ (HM.out.grew (g3.trans hHeld)) h5.out) ?_
    rintro e w7 ⟨qb, ql, qk, rfl, h6, g5⟩
    refine hK.out _ _ (hHeld.trans g5) (fun hHeld => ?_)
    clear hK K
    replace kG := kG.grew g5
    clear h5
    clear g5
    try simp only [List.getElem_toArray, List.getElem_cons_succ, List.getElem_cons_zero, Act.put, List.setIfInBounds_toArray, List.set_cons_zero, List.set_cons_succ]
    refine wpAnyH_take (i := 8) (v := ?_) rfl (by kernel_rfl) (by kernel_rfl) (by kernel_rfl) (fun _ _ _ h => h) (Or.inl ⟨by rfl, ?_⟩) hHeld ?_
    rotate_left
    · intro wq hSw
      replace hSw : Grew wi wq := hSw
      go_simp
      try with_reducible rfl
    try simp only [List.getElem_toArray, List.getElem_cons_succ, List.getElem_cons_zero, Act.put, List.setIfInBounds_toArray, List.set_cons_zero, List.set_cons_succ]
    refine wpAnyH_take (i := 9) (v := ?_) rfl (by kernel_rfl) (by kernel_rfl) (by kernel_rfl) (fun _ _ _ h => h) (Or.inl ⟨by rfl, ?_⟩) hHeld ?_
    rotate_left
    · intro wq hSw
      replace hSw : Grew wi wq := hSw
      go_simp
      try with_reducible rfl
    try simp only [List.getElem_toArray, List.getElem_cons_succ, List.getElem_cons_zero, Act.put, List.setIfInBounds_toArray, List.set_cons_zero, List.set_cons_succ]
    refine wpAnyH_take (i := 10) (v := ?_) rfl (by kernel_rfl) (by kernel_rfl) (by kernel_rfl) (fun _ _ _ h => h) (Or.inl ⟨by rfl, ?_⟩) hHeld ?_
    rotate_left
    · intro wq hSw
      replace hSw : Grew wi wq := hSw
      go_simp
      try with_reducible rfl
    try simp only [List.getElem_toArray, List.getElem_cons_succ, List.getElem_cons_zero, Act.put, List.setIfInBounds_toArray, List.set_cons_zero, List.set_cons_succ]
    refine wpAnyH_ready (rs := [12]) (by kernel_rfl) (by simp) ?_
    refine AllReadyH.cons rfl (fun K hK => ?_) AllReadyH.nil
    refine step_st_rm rfl (.tmp 14) (.tmp 125) rfl rfl kG rfl (by rfl) (by rfl) ⟨_, _, _, rfl⟩ ?_
    intro w8 kG2 oG
    have gS := oG.grew hHeld lG
    refine hK.out _ _ (gS) (fun hHeld => ?_)
    clear hK K
    have HZ1 := Lib.hid (h6.out.only oG kG (nb_one _ (fun x h => by cases h)))
    clear h6 kG oG gS
    have kG := kG2
    clear kG2
    try simp only [List.getElem_toArray, List.getElem_cons_succ, List.getElem_cons_zero, Act.put, List.setIfInBounds_toArray, List.set_cons_zero, List.set_cons_succ]
    refine wpAnyH_take (i := 13) (v := ?_) rfl (by kernel_rfl) (by kernel_rfl) (by kernel_rfl) (fun _ _ _ h => h) (Or.inl ⟨by rfl, ?_⟩) hHeld ?_
    rotate_left
    · intro wq hSw
      replace hSw : Grew wi wq := hSw
      go_simp
      try with_reducible rfl
    try simp only [List.getElem_toArray, List.getElem_cons_succ, List.getElem_cons_zero, Act.put, List.setIfInBounds_toArray, List.set_cons_zero, List.set_cons_succ]
    refine wpAnyH_done (by kernel_rfl) ?_ _
    try simp only [List.getElem_toArray, List.getElem_cons_succ, List.getElem_cons_zero, Act.put, List.setIfInBounds_toArray, List.set_cons_zero, List.set_cons_succ]
    have LG : Hid (w.heap.size ≤ G) := Lib.hid (Nat.le_trans g3.size lG)
    have nNG : N ≠ G := Nat.ne_of_lt (Nat.lt_of_lt_of_le kN3.lt lG)
    have nRG : R ≠ G := Nat.ne_of_lt (Nat.lt_of_lt_of_le kR3.lt lG)
    have nQG : Q ≠ G := Nat.ne_of_lt (Nat.lt_of_lt_of_le kQ3.lt lG)
    replace kN3 := kN3.grew hHeld
    replace kR3 := kR3.grew hHeld
    replace kQ3 := kQ3.grew hHeld
    replace HB4 := Lib.hid (HB4.out.grew hHeld)
    replace g3 : Grew w w8 := g3.trans hHeld
    clear hHeld lG kM3 wa8 wfl
    generalize w8 = w7 at *
    go_upto_region 17 with fail
    go_wp2_with (refine ld_rm rfl (.tmp 14) rfl _ rfl kG (by rfl) ?_)
    refine (hF2.out _ _ _ HZ1.out (HF.out.grew g3)).mono ?_
    rintro e w8 ⟨sb, sl, sk, rfl, HS2, gs⟩
    replace kN3 := kN3.grew gs
    replace kG := kG.grew gs
    replace kR3 := kR3.grew gs
    replace kQ3 := kQ3.grew gs
    replace HB4 := Lib.hid (HB4.out.grew gs)
    replace g3 := g3.trans gs
    clear gs HZ1
    go_upto_region 18 with (refine st_rm rfl (.tmp 14) (.tmp 132) rfl rfl kG rfl (by rfl) (by rfl) ⟨_, _, _, rfl⟩ ?_; intro w9 kG2 oG)
    replace kN3 := kN3.only oG nNG
    replace kR3 := kR3.only oG nRG
    replace kQ3 := kQ3.only oG nQG
    replace HB4 := Lib.hid (HB4.out.only oG kG (nb_one _ (fun x h => by cases h)))
    replace HS2 := Lib.hid (HS2.out.only oG kG (nb_one _ (fun x h => by cases h)))
    replace g3 : Grew w w9 := oG.grew g3 LG.out
    clear oG kG
    have hr1 := HC0.out.r1
    have e1 : bits .or .i64 (c 1) 2 = orB 2 (c 1) := or_i64_2 hr1.1 hr1.2
    clear hr1
    have y1 : w9.cell? ⟨N, 1, none⟩ = some (.int .i64 (c 1)) := kN3.cell 1
    have f1 := kN3.free 1
    go_upto_region 19 with fail
    have kN4 := kN3.nc (by decide : 1 < 13) (by decide) (by decide) (orB 2 (c 1))
    have o6 := Only.set w9 N 1 (.int .i64 (orB 2 (c 1)))
    have kG4 := kG2.only o6 nNG.symm
    have kRc := (kR3.only o6 nRN).drew
    have kQc := (kQ3.only o6 nQN).drew
    have HBc := Lib.hid (HB4.out.only o6 kN3 (nb_nc _ _ _ _)).drew
    have HSc := Lib.hid (HS2.out.only o6 kN3 (nb_nc _ _ _ _)).drew
    have gc : Grew w _ := (o6.grew g3 LN.out).drew1
    have nGR := nRG.symm
    have nGQ := nQG.symm
    clear y1 f1 e1 kN3 kG2 kR3 kQ3 g3 HB4 HS2 o6
    generalize (w9.setCell ⟨N, 1, none⟩ (.int .i64 (orB 2 (c 1)))) = w10 at *
    refine wp_region_held_drew (S := fun w' => Blk w' N (ncA (upd (headr c) 1 (orB 2 (c 1))) (.slice a1 6 j)) 25 ∧ Blk w' G #[.slice sb sl sk] 27) (by kernel_rfl) (⟨kN4.drew, kG4.drew⟩) (fun hHeld => ?_)
    replace hHeld : Blk w10.drew N (ncA (upd (headr c) 1 (orB 2 (c 1))) (.slice a1 6 j)) 25 ∧ Blk w10.drew G #[.slice sb sl sk] 27 := hHeld
    generalize w10.drew = wq10 at *
    refine wpAnyH_take (i := 0) (v := (ncV (upd (headr c) 1 (orB 2 (c 1))) (.slice a1 6 j))) rfl (by kernel_rfl) (by kernel_rfl) (by kernel_rfl) (fun _ _ _ h => h) (yl_nc rfl (by rfl) (by rfl) fun _ h => h.1) hHeld ?_
    try simp only [List.getElem_toArray, List.getElem_cons_succ, List.getElem_cons_zero, Act.put, List.setIfInBounds_toArray, List.set_cons_zero, List.set_cons_succ]
    refine wpAnyH_take (i := 1) (v := (.agg #[.slice sb sl sk])) rfl (by kernel_rfl) (by kernel_rfl) (by kernel_rfl) (fun _ _ _ h => h) (yl_rm rfl (by rfl) (by rfl) fun _ h => h.2) hHeld ?_
    try simp only [List.getElem_toArray, List.getElem_cons_succ, List.getElem_cons_zero, Act.put, List.setIfInBounds_toArray, List.set_cons_zero, List.set_cons_succ]
    refine wpAnyH_take (i := 2) (v := ?_) rfl (by kernel_rfl) (by kernel_rfl) (by kernel_rfl) (fun _ _ _ h => h) (Or.inl ⟨by rfl, ?_⟩) hHeld ?_
    rotate_left
    · intro wq hSw
      replace hSw : Blk wq N (ncA (upd (headr c) 1 (orB 2 (c 1))) (.slice a1 6 j)) 25 ∧ Blk wq G #[.slice sb sl sk] 27 := hSw
      go_simp
      try with_reducible rfl
    try simp only [List.getElem_toArray, List.getElem_cons_succ, List.getElem_cons_zero, Act.put, List.setIfInBounds_toArray, List.set_cons_zero, List.set_cons_succ]
    refine wpAnyH_take (i := 3) (v := ?_) rfl (by kernel_rfl) (by kernel_rfl) (by kernel_rfl) (fun _ _ _ h => h) (Or.inl ⟨by rfl, ?_⟩) hHeld ?_
    rotate_left
    · intro wq hSw
      replace hSw : Blk wq N (ncA (upd (headr c) 1 (orB 2 (c 1))) (.slice a1 6 j)) 25 ∧ Blk wq G #[.slice sb sl sk] 27 := hSw
      go_simp
      try with_reducible rfl
    try simp only [List.getElem_toArray, List.getElem_cons_succ, List.getElem_cons_zero, Act.put, List.setIfInBounds_toArray, List.set_cons_zero, List.set_cons_succ]
    refine wpAnyH_ready (rs := [4]) (by kernel_rfl) (by simp) ?_
    refine AllReadyH.cons rfl (fun K hK => ?_) AllReadyH.nil
    go_simp
    refine Calls.mono (hDo.out _ _ _ _ _ _ HSc.out HBc.out) ?_
    rintro e wb2 ⟨ya, yn, yk, rfl, HY, gb⟩
    refine hK.out _ _ (⟨hHeld.1.grew gb, hHeld.2.grew gb⟩) (fun hHeld => ?_)
    clear hK K
    replace kRc := kRc.grew gb
    replace kQc := kQc.grew gb
    replace gc := gc.trans gb
    clear gb HBc HSc
    try simp only [List.getElem_toArray, List.getElem_cons_succ, List.getElem_cons_zero, Act.put, List.setIfInBounds_toArray, List.set_cons_zero, List.set_cons_succ]
    refine wpAnyH_ready (rs := [5]) (by kernel_rfl) (by simp) ?_
    refine AllReadyH.cons rfl (fun K hK => ?_) AllReadyH.nil
    refine step_st_nc rfl (.tmp 6) (.tmp 138) rfl rfl (upd (headr c) 1 (orB 2 (c 1))) kRc rfl (by rfl) (by rfl) ⟨_, _, _, rfl⟩ ?_
    intro wd kRd od
    refine hK.out _ _ (⟨hHeld.1.only od nNR, hHeld.2.only od nGR⟩) (fun hHeld => ?_)
    clear hK K
    have kQd := kQc.only od nQR
    have HYd := Lib.hid (HY.out.only od kRc nb_zn)
    have gd : Grew w wd := od.grew gc LR.out
    clear kRc kQc gc od HY
    try simp only [List.getElem_toArray, List.getElem_cons_succ, List.getElem_cons_zero, Act.put, List.setIfInBounds_toArray, List.set_cons_zero, List.set_cons_succ]
    refine wpAnyH_ready (rs := [6]) (by kernel_rfl) (by simp) ?_
    refine AllReadyH.cons rfl (fun K hK => ?_) AllReadyH.nil
    refine step_st_rm rfl (.tmp 7) (.tmp 142) rfl rfl kQd rfl (by rfl) (by rfl) ⟨_, _, _, rfl⟩ ?_
    intro we kQe oe
    refine hK.out _ _ (⟨hHeld.1.only oe nNQ, hHeld.2.only oe nGQ⟩) (fun hHeld => ?_)
    clear hK K
    have kRe := kRd.only oe nRQ
    have HYe := Lib.hid (HYd.out.only oe kQd (nb_one _ (fun x h => by cases h)))
    have ge : Grew w we := oe.grew gd LQ.out
    clear kRd kQd gd oe HYd
    try simp only [List.getElem_toArray, List.getElem_cons_succ, List.getElem_cons_zero, Act.put, List.setIfInBounds_toArray, List.set_cons_zero, List.set_cons_succ]
    refine wpAnyH_take (i := 7) (v := ?_) rfl (by kernel_rfl) (by kernel_rfl) (by kernel_rfl) (fun _ _ _ h => h) (Or.inl ⟨by rfl, ?_⟩) hHeld ?_
    rotate_left
    · intro wq hSw
      replace hSw : Blk wq N (ncA (upd (headr c) 1 (orB 2 (c 1))) (.slice a1 6 j)) 25 ∧ Blk wq G #[.slice sb sl sk] 27 := hSw
      go_simp
      try with_reducible rfl
    try simp only [List.getElem_toArray, List.getElem_cons_succ, List.getElem_cons_zero, Act.put, List.setIfInBounds_toArray, List.set_cons_zero, List.set_cons_succ]
    refine wpAnyH_done (by kernel_rfl) ?_ _
    try simp only [List.getElem_toArray, List.getElem_cons_succ, List.getElem_cons_zero, Act.put, List.setIfInBounds_toArray, List.set_cons_zero, List.set_cons_succ]
    go_wp2_with fail
    rw [or_headr c] at kRe
    exact bodyPost_ret (v := .tuple #[ncV (headr (upd c 1 (orB 2 (c 1)))) (.slice a1 6 j), .agg #[.slice ya yn yk], .bool true]) (results_3 (p := 6) (q := 7) (r := 8) Try.results28 _ _ R Q kRe kQe rfl rfl) rfl ⟨_, _, _, _, _, rfl, Lib.hid (HN.out.grew ge), HYe, ge⟩
end Go.Proofs.Ytoehdhhodidehaa
