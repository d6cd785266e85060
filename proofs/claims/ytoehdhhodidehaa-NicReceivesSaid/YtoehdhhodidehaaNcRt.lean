/-
  The document's own Send: a frame that is not one, and one that goes.
-/
import Derived.Test.YtoehdhhodidehaaRows
import Derived.Test.YtoehdhhodidehaaNcRs
import Derived.Test.YtoehdhhodidehaaPart
import Derived.Test.YtoehdhhodidehaaClass
import Derived.WalkKit
import Derived.Outline
import Derived.Handy
import Derived.StillTailTactics
import Derived.Deep.QuietTactic
import Derived.BigQuiet
import Derived.Deep.DeepCutAuto
import Derived.Deep.RegionHeld3
import Derived.Great.BuildSlice
import Derived.Deep.WholeRow
import Derived.Lib.SliceRun
import Derived.BigFrame
set_option maxRecDepth 4000
set_option linter.unusedVariables false
set_option linter.unusedSimpArgs false
namespace Go.Proofs.Ytoehdhhodidehaa
open Go.RowKit

theorem q_nc {ops : Array Oper} {C : World → Prop} {Q : Act → Prop} {rest : List Oper} {o : Oper} {a : Act} (hw : Region.wanted o (yielded ops a.tmps) = true) (v : Operand) (ho : o.op = .load 25 v) (d : Option Tmp) (hd : o.dst = d) {g : Nat} {c : Nat → Int} {u : Value} {T : TypeId}
    (k : ∀ w, C w → Blk w g (ncA c u) T) (hx : a.eval v = .pointer (some ⟨g, 0, none⟩)) (h : wpQuiet Try.prog ops C Q rest (a.put d (ncV c u))) : wpQuiet Try.prog ops C Q (o :: rest) a :=
  wpQuiet_load_part hw _ v ho d hd k (ncA c u) hx _ Try.underlying25 rfl ncInfo rfl h
theorem q_rm {ops : Array Oper} {C : World → Prop} {Q : Act → Prop} {rest : List Oper} {o : Oper} {a : Act} (hw : Region.wanted o (yielded ops a.tmps) = true) (v : Operand) (ho : o.op = .load 27 v) (d : Option Tmp) (hd : o.dst = d) {g : Nat} {u : Value} {T : TypeId}
    (k : ∀ w, C w → Blk w g #[u] T) (hx : a.eval v = .pointer (some ⟨g, 0, none⟩)) (h : wpQuiet Try.prog ops C Q rest (a.put d (.agg #[u]))) : wpQuiet Try.prog ops C Q (o :: rest) a :=
  wpQuiet_load_part hw _ v ho d hd k #[u] hx _ Try.underlying27 rfl rmInfo rfl h
theorem or_headt (c : Nat → Int) : upd (headt c) 1 (orB 1 (c 1)) = headt (upd c 1 (orB 1 (c 1))) := by
  funext i
  by_cases h1 : i = 1
  · subst h1; rfl
  · by_cases h5 : i = 5
    · subst h5; rfl
    · simp [headt, upd, h1, h5]
theorem fail_headt (c : Nat → Int) : failC (headt c) = headt (failC c) := by
  funext i
  by_cases h1 : i = 1
  · subst h1; rfl
  · by_cases h5 : i = 5
    · subst h5; rfl
    · by_cases h12 : i = 12
      · subst h12; rfl
      · simp [failC, headt, cntC, upd, h1, h5, h12]
theorem yl_cut {ops : Array Oper} {S : World → Prop} {o : Oper} {a : Act} {t : TypeId} {x : Operand} {lo hi : Option Operand} {v' : Value} (ho : o.op = .slice t x lo hi none) (hw : Region.wanted o (yielded ops a.tmps) = true) (hrun : ∀ w, (Instr.sliceAt t (a.eval x) (lo.map a.eval) (hi.map a.eval) none).run Try.prog w = .ok v' w) : YieldsIf Try.prog ops S o v' a := by
  refine Or.inl ⟨hw, fun w hSw => ?_⟩
  simp [execOp, ho, hrun, Result.andThen]
set_option maxHeartbeats 4000000 in
theorem rSend_bad {c : Nat → Int} {m : List Int} {a1 : Option Addr} {j : Nat} {a : Option Addr} {n k : Nat} {xs : List Int} {w : World} (hN : Buf w (.slice a1 m.length j) m) (hM : Buf w (.slice a n k) xs) (hl : xs.length ≤ 140737488355328) (h6 : m.length = 6) (hc : ROk c) (hw : waitst c = true) (hin : insideV xs.length (atT c) 16 = true) (ho : ownB (bytesV xs (atT c) 16) = true) (hf : (insideV xs.length (adrV (bytesV xs (atT c) 16)) (lenV (bytesV xs (atT c) 16)) && frameB (lenV (bytesV xs (atT c) 16))) = false) : Calls Try.prog 24 #[ncV c (.slice a1 6 j), .agg #[.slice a n k]] w fun e w' => ∃ a1 k1 a2 n2 k2 a3 n3 k3, e = .returned (.tuple #[ncV (headt (failC c)) (.slice a1 6 k1), .agg #[.slice a2 n2 k2], .slice a3 n3 k3, .bool true]) ∧ Hid (Buf w' (.slice a1 6 k1) m) ∧ Hid (Buf w' (.slice a2 n2 k2) (writeV xs (atT c + 10) 4 (bothV (bytesV xs (atT c) 16) 2))) ∧ Hid (Buf w' (.slice a3 n3 k3) []) ∧ Grew w w' := by
  have hC := rCheck_c c a1 6 j
  rw [ok_chk hc] at hC
  have HC := Lib.hid hC
  rw [h6] at hN
  have hw2 : c 0 % 2 ≠ 0 ∧ c 5 ≠ c 6 := by
    unfold waitst bitB at hw
    rw [Int.ediv_one] at hw
    simp only [Bool.and_eq_true, beq_iff_eq, bne_iff_ne] at hw
    omega
  have e0 : (c 0).tmod 2 = c 0 % 2 := Int.tmod_eq_emod_of_nonneg hc.r0.1
  have u0 : (c 0 % 2 == 0) = false := by simpa using hw2.1
  have u1 : (c 5 == c 6) = false := by simpa using hw2.2
  have r3 := hc.r3
  have r4 := hc.r4
  have r5 := hc.r5
  have q1 : IntKind.u64.wrap (c 5) = c 5 := IntWalk.u64_in _ (by omega)
  have q2 : IntKind.u64.wrap (16 * c 5) = 16 * c 5 := IntWalk.u64_in _ (by omega)
  have q3 : IntKind.u64.wrap (c 3 + 16 * c 5) = c 3 + 16 * c 5 := IntWalk.u64_in _ (by omega)
  have hBy := Lib.hid (fun (w : World) (h : Buf w (.slice a n k) xs) => refBytes_c (c 3 + 16 * c 5) 16 (by omega) (by omega) (by decide) (by decide) w h hl)
  have hA : atT c = c 3 + 16 * c 5 := rfl
  rw [hA] at hin ho hf ⊢
  rw [hin] at hBy
  have hok := bytesV_ok hM.ok (c 3 + 16 * c 5) 16
  have h16 := bytesV_16 hin
  rw [own_flag hok h16] at ho
  generalize bytesV xs (c 3 + 16 * c 5) 16 = ds at *
  have hd := hok.getD 10
  have d0 : (ds.getD 10 0).tmod 2 = ds.getD 10 0 % 2 := Int.tmod_eq_emod_of_nonneg hd.1
  have v0 : (ds.getD 10 0 % 2 == 0) = false := by
    unfold bitB at ho
    rw [Int.ediv_one] at ho
    simp only [beq_eq_false_iff_ne, beq_iff_eq, ne_eq] at ho ⊢
    omega
  have hpl := parts_lt hok h16
  have hG8 := Lib.hid (fun (w : World) (v : Value) (h : Buf w v (cutL ds 8 10)) => refGet_c false (hok.cut 8 10) (by rw [cutL_length (by decide) (by omega)]; decide) w h.bytes)
  have hG0 := Lib.hid (fun (w : World) (v : Value) (h : Buf w v (cutL ds 0 8)) => refGet_c false (hok.cut 0 8) (by rw [cutL_length (by decide) (by omega)]; decide) w h.bytes)
  change Hid (∀ w v, Buf w v (cutL ds 8 10) → Calls _ _ _ w fun e w' => e = .returned (.int .u64 (lenV ds)) ∧ w' = w) at hG8
  change Hid (∀ w v, Buf w v (cutL ds 0 8) → Calls _ _ _ w fun e w' => e = .returned (.int .u64 (adrV ds)) ∧ w' = w) at hG0
  have hB2 := Lib.hid (fun (w : World) (h : Buf w (.slice a n k) xs) => refBytes_c (adrV ds) (lenV ds) hpl.1.1 hpl.1.2 (by omega) (by omega) w h hl)
  have hDo := Lib.hid (fun (w : World) (b : Option Addr) (i : Nat) (h : Buf w (.slice a n k) xs) (hD : Buf w (.slice b ds.length i) ds) => rdone_c (x := c 3 + 16 * c 5) (st := 2) (by omega) (by omega) (by decide) (by decide) h hD h16 hl)
  rw [← done4 hok h16 (by decide) (by decide)] at hDo
  have hWV : fillV xs (c 3 + 16 * c 5 + 10) (putL (bothV ds 2) 4 false) = writeV xs (c 3 + 16 * c 5 + 10) 4 (bothV ds 2) := rfl
  rw [hWV] at hDo
  clear hWV
  have hWr := Lib.hid (fun (w : World) => rwrong_c (c := headt c) hc.r12.1 hc.r12.2 hc.r1.1 hc.r1.2 a1 6 j w)
  rw [fail_headt c] at hWr
  have hws : IntKind.i64.wrap (lenV ds) = lenV ds := IntWalk.i64_in _ (by omega)
  have q4 : IntKind.i64.wrap (c 5 + 1) = c 5 + 1 := IntWalk.i64_in _ (by omega)
  have q5 : (c 5 + 1).tmod (c 4) = (c 5 + 1) % c 4 := Int.tmod_eq_emod_of_nonneg (by omega)
  have q6 : c 4 ≠ 0 := by omega
  have q7 : (c 4 == 0) = false := by simpa using q6
  have HQ4 := Lib.hid (And.intro q4 (And.intro q5 (And.intro q6 q7)))
  generalize hf0 : ds.getD 10 0 = f0 at *
  have Hf0 := Lib.hid hf0
  have HD0 := Lib.hid (And.intro d0 v0)
  have H16 := Lib.hid h16
  have HOK := Lib.hid hok
  have HWS := Lib.hid hws
  have HN := Lib.hid hN
  have HM := Lib.hid hM
  have HF := Lib.hid hf
  have HC0 := Lib.hid hc
  generalize writeV xs (c 3 + 16 * c 5 + 10) 4 (bothV ds 2) = ys at *
  generalize lenV ds = sz at *
  generalize adrV ds = ad at *
  generalize insideV xs.length ad sz = iv at *
  clear hC hN hM hl hc hw h6 hA hin ho hok h16 hd d0 v0 hf0 hw2 r3 r4 r5 hpl hws q4 q5 q6 q7 hf
  go_enter Try.func24, Try.ntmps24
  go_upto_region 1 with fail
  have kN : Blk ((((w.alloc (.cells (ncA c (.slice a1 6 j)) 25)).alloc (.cells #[.slice a n k] 27)).alloc (.cells zeroN 25)).alloc (.cells #[.slice none 0 0] 27)) w.heap.size (ncA c (.slice a1 6 j)) 25 := (((Blk.new w (ncA c (.slice a1 6 j)) 25 _ rfl).alloc (.cells #[.slice a n k] 27)).alloc (.cells zeroN 25)).alloc (.cells #[.slice none 0 0] 27)
  have kM : Blk ((((w.alloc (.cells (ncA c (.slice a1 6 j)) 25)).alloc (.cells #[.slice a n k] 27)).alloc (.cells zeroN 25)).alloc (.cells #[.slice none 0 0] 27)) (w.heap.size + 1) #[.slice a n k] 27 := ((Blk.new (w.alloc (.cells (ncA c (.slice a1 6 j)) 25)) #[.slice a n k] 27 _ (by simp)).alloc (.cells zeroN 25)).alloc (.cells #[.slice none 0 0] 27)
  have kR : Blk ((((w.alloc (.cells (ncA c (.slice a1 6 j)) 25)).alloc (.cells #[.slice a n k] 27)).alloc (.cells zeroN 25)).alloc (.cells #[.slice none 0 0] 27)) (w.heap.size + 2) zeroN 25 := (Blk.new ((w.alloc (.cells (ncA c (.slice a1 6 j)) 25)).alloc (.cells #[.slice a n k] 27)) zeroN 25 _ (by simp)).alloc (.cells #[.slice none 0 0] 27)
  have kQ : Blk ((((w.alloc (.cells (ncA c (.slice a1 6 j)) 25)).alloc (.cells #[.slice a n k] 27)).alloc (.cells zeroN 25)).alloc (.cells #[.slice none 0 0] 27)) (w.heap.size + 3) #[.slice none 0 0] 27 := Blk.new (((w.alloc (.cells (ncA c (.slice a1 6 j)) 25)).alloc (.cells #[.slice a n k] 27)).alloc (.cells zeroN 25)) #[.slice none 0 0] 27 _ (by simp)
  have g0 : Grew w ((((w.alloc (.cells (ncA c (.slice a1 6 j)) 25)).alloc (.cells #[.slice a n k] 27)).alloc (.cells zeroN 25)).alloc (.cells #[.slice none 0 0] 27)) := ((((Grew.refl w).alloc (.cells (ncA c (.slice a1 6 j)) 25)).alloc (.cells #[.slice a n k] 27)).alloc (.cells zeroN 25)).alloc (.cells #[.slice none 0 0] 27)
  generalize ((((w.alloc (.cells (ncA c (.slice a1 6 j)) 25)).alloc (.cells #[.slice a n k] 27)).alloc (.cells zeroN 25)).alloc (.cells #[.slice none 0 0] 27)) = w0 at *
  have lN : w.heap.size ≤ w.heap.size := by omega
  have lM : w.heap.size ≤ (w.heap.size + 1) := by omega
  have lR : w.heap.size ≤ (w.heap.size + 2) := by omega
  have lQ : w.heap.size ≤ (w.heap.size + 3) := by omega
  have nNM : w.heap.size ≠ (w.heap.size + 1) := by omega
  have nNR : w.heap.size ≠ (w.heap.size + 2) := by omega
  have nNQ : w.heap.size ≠ (w.heap.size + 3) := by omega
  have nMN : (w.heap.size + 1) ≠ w.heap.size := by omega
  have nMR : (w.heap.size + 1) ≠ (w.heap.size + 2) := by omega
  have nMQ : (w.heap.size + 1) ≠ (w.heap.size + 3) := by omega
  have nRN : (w.heap.size + 2) ≠ w.heap.size := by omega
  have nRM : (w.heap.size + 2) ≠ (w.heap.size + 1) := by omega
  have nRQ : (w.heap.size + 2) ≠ (w.heap.size + 3) := by omega
  have nQN : (w.heap.size + 3) ≠ w.heap.size := by omega
  have nQM : (w.heap.size + 3) ≠ (w.heap.size + 1) := by omega
  have nQR : (w.heap.size + 3) ≠ (w.heap.size + 2) := by omega
  generalize (w.heap.size + 3) = Q at *
  generalize (w.heap.size + 2) = R at *
  generalize (w.heap.size + 1) = M at *
  generalize hZ : w.heap.size = N at *
  have HZ := Lib.hid hZ
  clear hZ
  have LN : Hid (w.heap.size ≤ N) := Lib.hid (by rw [HZ.out]; exact lN)
  have LM : Hid (w.heap.size ≤ M) := Lib.hid (by rw [HZ.out]; exact lM)
  have LR : Hid (w.heap.size ≤ R) := Lib.hid (by rw [HZ.out]; exact lR)
  have LQ : Hid (w.heap.size ≤ Q) := Lib.hid (by rw [HZ.out]; exact lQ)
  go_wp2_with (refine ld_nc rfl (.tmp 2) rfl _ rfl kN (by rfl) ?_)
  refine (HC.out _).mono ?_
  rintro e w1 ⟨rfl, g1⟩
  have kN1 := kN.grew g1
  have kM1 := kM.grew g1
  have kR1 := kR.grew g1
  have kQ1 := kQ.grew g1
  replace g1 := g0.trans g1
  clear kN kM kR kQ g0
  have y0 : w1.cell? ⟨N, 0, none⟩ = some (.int .i64 (c 0)) := kN1.cell 0
  have y3 : w1.cell? ⟨N, 3, none⟩ = some (.int .u64 (c 3)) := kN1.cell 3
  have y5 : w1.cell? ⟨N, 5, none⟩ = some (.int .i64 (c 5)) := kN1.cell 5
  have y6 : w1.cell? ⟨N, 6, none⟩ = some (.int .i64 (c 6)) := kN1.cell 6
  go_upto_region 4 with fail
  clear y0 y5 y6 y3 e0 u0 u1 q1 q2 q3
  go_wp2_with (refine ld_rm rfl (.tmp 3) rfl _ rfl kM1 (by rfl) ?_)
  refine (hBy.out _ (HM.out.grew g1)).mono ?_
  rintro e w2 ⟨u, rfl, HB, g2⟩
  obtain ⟨ub, uk, rfl, _, _⟩ := HB.shape
  replace kN1 := kN1.grew g2
  replace kM1 := kM1.grew g2
  replace kR1 := kR1.grew g2
  replace kQ1 := kQ1.grew g2
  replace g1 := g1.trans g2
  clear g2 hBy
  obtain ⟨b1, o1, eb1, c10, l10⟩ := HB.at 10 (by rw [H16.out]; decide) _ Hf0.out
  subst eb1
  obtain ⟨d0, v0⟩ := HD0.out
  have h10 : (10 : Int) < (ds.length : Int) := by rw [H16.out]; decide
  go_upto_region 10 with fail
  clear c10 l10 d0 v0 h10
  have y4 : w2.cell? ⟨N, 4, none⟩ = some (.int .i64 (c 4)) := kN1.cell 4
  have y5 : w2.cell? ⟨N, 5, none⟩ = some (.int .i64 (c 5)) := kN1.cell 5
  have f5 := kN1.free 5
  obtain ⟨q4, q5, q6, q7⟩ := HQ4.out
  go_upto_region 11 with fail
  have kN2 := kN1.nc (by decide : 5 < 13) (by decide) (by decide) ((c 5 + 1) % c 4)
  have o5 := Only.set w2 N 5 (.int .i64 ((c 5 + 1) % c 4))
  have kM2 := kM1.only o5 nMN
  have kR2 := kR1.only o5 nRN
  have kQ2 := kQ1.only o5 nQN
  have HB2 := HB.only o5 kN1 (nb_nc _ _ _ _)
  have g2 : Grew w _ := o5.grew g1 LN.out
  clear y4 y5 f5 q4 q5 q6 q7 kN1 kM1 kR1 kQ1 g1 o5 HB HQ4
  generalize (w2.setCell ⟨N, 5, none⟩ (.int .i64 ((c 5 + 1) % c 4))) = w3 at *
  replace kN2 : Blk w3 N (ncA (headt c) (.slice a1 6 j)) 25 := kN2
  obtain ⟨p8, q8, HL8, hx8, hr8, hy8, hz8⟩ := HB2.run_cut (lo := 8) (hi := 10) (by decide) (by rw [H16.out]; decide)
  obtain ⟨p0, q0, HL0, hx0, hy0, hr0, hz0⟩ := HB2.run_cut (lo := 0) (hi := 8) (by decide) (by rw [H16.out]; decide)
  replace hr0 := hr0 rfl
  have HR8 := Lib.hid (fun w' => (hr8 .i64 .i64 w' : (Instr.sliceAt 23 (.slice (some ⟨b1, o1, none⟩) ds.length uk) (some (.int .i64 8)) (some (.int .i64 10)) none).run Try.prog w' = .ok (.slice p8 2 q8) w'))
  have HR0 := Lib.hid (fun w' => (hr0 .i64 w' : (Instr.sliceAt 23 (.slice (some ⟨b1, o1, none⟩) ds.length uk) none (some (.int .i64 8)) none).run Try.prog w' = .ok (.slice p0 8 q0) w'))
  have HL0 : Hid (Buf w3 (.slice p0 8 q0) (cutL ds 0 8)) := Lib.hid HL0
  have HL8 : Hid (Buf w3 (.slice p8 2 q8) (cutL ds 8 10)) := Lib.hid HL8
  have HB3 := Lib.hid HB2
  clear hr8 hr0 HB2 hx8 hy8 hz8 hx0 hy0 hz0
  go_wp2_with (refine wpList_cut rfl _ (.tmp 68) (some (.const (.int .i64 8))) (some (.const (.int .i64 10))) rfl _ (by exact HR8.out _) ?_)
  refine (hG8.out _ _ HL8.out).mono ?_
  rintro e w4 ⟨rfl, h4⟩
  obtain rfl := h4.symm
  clear h4
  have hws := HWS.out
  go_upto_region 12 with fail
  clear hws
  refine wp_region_held_drew (S := fun w' => Grew w3 w') (by kernel_rfl) ((Grew.refl w3).drew1) (fun hHeld => ?_)
  replace hHeld : Grew w3 w3.drew := hHeld
  generalize w3.drew = wq0 at *
  refine wpAnyH_take (i := 0) (v := (.agg #[.slice a n k])) rfl (by kernel_rfl) (by kernel_rfl) (by kernel_rfl) (fun _ _ _ h => h) (yl_rm rfl (by rfl) (by rfl) fun _ h => kM2.grew h) hHeld ?_
  try simp only [List.getElem_toArray, List.getElem_cons_succ, List.getElem_cons_zero, Act.put, List.setIfInBounds_toArray, List.set_cons_zero, List.set_cons_succ]
  refine wpAnyH_take (i := 1) (v := ?_) rfl (by kernel_rfl) (by kernel_rfl) (by kernel_rfl) (fun _ _ _ h => h) (Or.inl ⟨by rfl, ?_⟩) hHeld ?_
  rotate_left
  · intro wq hSw
    replace hSw : Grew w3 wq := hSw
    go_simp
    try with_reducible rfl
  try simp only [List.getElem_toArray, List.getElem_cons_succ, List.getElem_cons_zero, Act.put, List.setIfInBounds_toArray, List.set_cons_zero, List.set_cons_succ]
  refine wpAnyH_take (i := 2) (v := .slice p0 8 q0) rfl (by kernel_rfl) (by kernel_rfl) (by kernel_rfl) (fun _ _ _ h => h) (yl_cut rfl (by rfl) (fun w => HR0.out w)) hHeld ?_
  try simp only [List.getElem_toArray, List.getElem_cons_succ, List.getElem_cons_zero, Act.put, List.setIfInBounds_toArray, List.set_cons_zero, List.set_cons_succ]
  refine wpAnyH_take (i := 4) (v := ?_) rfl (by kernel_rfl) (by kernel_rfl) (by kernel_rfl) (fun _ _ _ h => h) (Or.inl ⟨by rfl, ?_⟩) hHeld ?_
  rotate_left
  · intro wq hSw
    replace hSw : Grew w3 wq := hSw
    go_simp
    try with_reducible rfl
  try simp only [List.getElem_toArray, List.getElem_cons_succ, List.getElem_cons_zero, Act.put, List.setIfInBounds_toArray, List.set_cons_zero, List.set_cons_succ]
  refine wpAnyH_ready (rs := [3]) (by kernel_rfl) (by simp) ?_
  refine AllReadyH.cons rfl (fun K hK => ?_) AllReadyH.nil
  go_simp
  refine Calls.mono (hG0.out _ _ (HL0.out.grew hHeld)) ?_
  rintro e wa ⟨rfl, h4⟩
  obtain rfl := h4.symm
  clear h4
  refine hK.out _ _ (hHeld) (fun hHeld => ?_)
  clear hK K
  try simp only [List.getElem_toArray, List.getElem_cons_succ, List.getElem_cons_zero, Act.put, List.setIfInBounds_toArray, List.set_cons_zero, List.set_cons_succ]
  refine wpAnyH_ready (rs := [5]) (by kernel_rfl) (by simp) ?_
  refine AllReadyH.cons rfl (fun K hK => ?_) AllReadyH.nil
  go_simp
  refine Calls.mono (hB2.out _ (HM.out.grew (g2.trans hHeld))) ?_
  rintro e wb ⟨fu, rfl, HFr, gb⟩
  obtain ⟨fb, fk, rfl, hx1, hx2⟩ := HFr.shape
  have HFR := Lib.hid HFr
  clear hx1 hx2 HFr
  refine hK.out _ _ (hHeld.trans gb) (fun hHeld => ?_)
  clear hK K
  clear gb
  try simp only [List.getElem_toArray, List.getElem_cons_succ, List.getElem_cons_zero, Act.put, List.setIfInBounds_toArray, List.set_cons_zero, List.set_cons_succ]
  refine wpAnyH_take (i := 6) (v := ?_) rfl (by kernel_rfl) (by kernel_rfl) (by kernel_rfl) (fun _ _ _ h => h) (Or.inl ⟨by rfl, ?_⟩) hHeld ?_
  rotate_left
  · intro wq hSw
    replace hSw : Grew w3 wq := hSw
    go_simp
    try with_reducible rfl
  try simp only [List.getElem_toArray, List.getElem_cons_succ, List.getElem_cons_zero, Act.put, List.setIfInBounds_toArray, List.set_cons_zero, List.set_cons_succ]
  refine wpAnyH_take (i := 7) (v := ?_) rfl (by kernel_rfl) (by kernel_rfl) (by kernel_rfl) (fun _ _ _ h => h) (Or.inl ⟨by rfl, ?_⟩) hHeld ?_
  rotate_left
  · intro wq hSw
    replace hSw : Grew w3 wq := hSw
    go_simp
    try with_reducible rfl
  try simp only [List.getElem_toArray, List.getElem_cons_succ, List.getElem_cons_zero, Act.put, List.setIfInBounds_toArray, List.set_cons_zero, List.set_cons_succ]
  refine wpAnyH_take (i := 8) (v := ?_) rfl (by kernel_rfl) (by kernel_rfl) (by kernel_rfl) (fun _ _ _ h => h) (Or.inl ⟨by rfl, ?_⟩) hHeld ?_
  rotate_left
  · intro wq hSw
    replace hSw : Grew w3 wq := hSw
    go_simp
    try with_reducible rfl
  try simp only [List.getElem_toArray, List.getElem_cons_succ, List.getElem_cons_zero, Act.put, List.setIfInBounds_toArray, List.set_cons_zero, List.set_cons_succ]
  refine wpAnyH_take (i := 9) (v := ?_) rfl (by kernel_rfl) (by kernel_rfl) (by kernel_rfl) (fun _ _ _ h => h) (Or.inl ⟨by rfl, ?_⟩) hHeld ?_
  rotate_left
  · intro wq hSw
    replace hSw : Grew w3 wq := hSw
    go_simp
    try with_reducible rfl
  try simp only [List.getElem_toArray, List.getElem_cons_succ, List.getElem_cons_zero, Act.put, List.setIfInBounds_toArray, List.set_cons_zero, List.set_cons_succ]
  refine wpAnyH_take (i := 10) (v := ?_) rfl (by kernel_rfl) (by kernel_rfl) (by kernel_rfl) (fun _ _ _ h => h) (Or.inl ⟨by rfl, ?_⟩) hHeld ?_
  rotate_left
  · intro wq hSw
    replace hSw : Grew w3 wq := hSw
    go_simp
    try with_reducible rfl
  try simp only [List.getElem_toArray, List.getElem_cons_succ, List.getElem_cons_zero, Act.put, List.setIfInBounds_toArray, List.set_cons_zero, List.set_cons_succ]
  refine wpAnyH_done (by kernel_rfl) ?_ _
  try simp only [List.getElem_toArray, List.getElem_cons_succ, List.getElem_cons_zero, Act.put, List.setIfInBounds_toArray, List.set_cons_zero, List.set_cons_succ]
  have kN3 := kN2.grew hHeld
  have kM3 := kM2.grew hHeld
  have kR3 := kR2.grew hHeld
  have kQ3 := kQ2.grew hHeld
  have HB4 := Lib.hid (HB3.out.grew hHeld)
  have g3 := g2.trans hHeld
  clear kN2 kM2 kR2 kQ2 HB3 g2 HL0 HL8 HR0 HR8 hB2 hG0 hG8
  clear HFR
  clear hHeld
  generalize wb = w5 at *
  have hf := HF.out
  clear HF
  cases iv
  · clear hf
    go_upto_region 14 with fail
    refine region_over_tail 5 (by kernel_rfl) (by kernel_rfl) ?_
    simp only [List.take_succ_cons, List.take_zero, List.drop_succ_cons, List.drop_zero]
    repeat (first | (refine q_nc (by kernel_rfl) (.tmp 2) rfl _ rfl (fun _ ⟨z, e⟩ => e ▸ kN3.over z) (by rfl) ?_; simp only [Act.put, List.setIfInBounds_toArray, List.set_cons_zero, List.set_cons_succ]) | (refine q_rm (by kernel_rfl) (.tmp 3) rfl _ rfl (fun _ ⟨z, e⟩ => e ▸ kM3.over z) (by rfl) ?_; simp only [Act.put, List.setIfInBounds_toArray, List.set_cons_zero, List.set_cons_succ]) | go_big_quiet_step ((go_at_call 45; with_reducible exact over_grew (hWr.out _))))
    refine wpQuiet_nil ?_
    intro z
    have kRc := kR3.over z
    have kQc := kQ3.over z
    have HBc := Lib.hid (HB4.out.grew z.g)
    have gc := g3.trans z.g
    clear kN3 kM3 kR3 kQ3 HB4 g3
    generalize z.w = w6 at *
    clear z hWr
    go_wp2_with fail
    refine (hDo.out _ _ _ (HM.out.grew gc) HBc.out).mono ?_
    rintro e w7 ⟨ya, yn, yk, rfl, HY, gb⟩
    replace kRc := kRc.grew gb
    replace kQc := kQc.grew gb
    replace gc := gc.trans gb
    clear gb HBc hDo
    go_wp2_with (first | (refine st_nc rfl (.tmp 4) (.tmp 92) rfl rfl (headt (failC c)) kRc rfl (by rfl) (by rfl) ⟨_, _, _, rfl⟩ ?_; intro wd kRd od; have kQd := kQc.only od nQR) | (refine st_rm rfl (.tmp 5) (.tmp 96) rfl rfl kQd rfl (by rfl) (by rfl) ⟨_, _, _, rfl⟩ ?_; intro we kQe oe))
    have kRe := kRd.only oe nRQ
    have HYe := Lib.hid ((HY.out.only od kRc nb_zn).only oe kQd (nb_one _ (fun x h => by cases h)))
    have ge : Grew w we := oe.grew (od.grew gc LR.out) LQ.out
    exact bodyPost_ret (v := .tuple #[ncV (headt (failC c)) (.slice a1 6 j), .agg #[.slice ya yn yk], .slice none 0 0, .bool true]) (results_4 (p := 4) (q := 5) (r := 6) (s := 7) Try.results24 _ _ R Q kRe kQe rfl rfl) rfl ⟨_, _, _, _, _, _, _, _, rfl, Lib.hid (HN.out.grew ge), HYe, Lib.hid (Buf.nil _), ge⟩
  · have hs : sz < 14 ∨ ¬ (sz < 14) ∧ 1514 < sz := by
      simp only [frameB, Bool.true_and, Bool.and_eq_false_iff, decide_eq_false_iff_not] at hf
      omega
    clear hf
    rcases hs with hs | ⟨hs, hs2⟩
    · go_upto_region 14 with fail
      refine region_over_tail 5 (by kernel_rfl) (by kernel_rfl) ?_
      simp only [List.take_succ_cons, List.take_zero, List.drop_succ_cons, List.drop_zero]
      repeat (first | (refine q_nc (by kernel_rfl) (.tmp 2) rfl _ rfl (fun _ ⟨z, e⟩ => e ▸ kN3.over z) (by rfl) ?_; simp only [Act.put, List.setIfInBounds_toArray, List.set_cons_zero, List.set_cons_succ]) | (refine q_rm (by kernel_rfl) (.tmp 3) rfl _ rfl (fun _ ⟨z, e⟩ => e ▸ kM3.over z) (by rfl) ?_; simp only [Act.put, List.setIfInBounds_toArray, List.set_cons_zero, List.set_cons_succ]) | go_big_quiet_step ((go_at_call 45; with_reducible exact over_grew (hWr.out _))))
      refine wpQuiet_nil ?_
      intro z
      have kRc := kR3.over z
      have kQc := kQ3.over z
      have HBc := Lib.hid (HB4.out.grew z.g)
      have gc := g3.trans z.g
      clear kN3 kM3 kR3 kQ3 HB4 g3
      generalize z.w = w6 at *
      clear z hWr
      go_wp2_with fail
      refine (hDo.out _ _ _ (HM.out.grew gc) HBc.out).mono ?_
      rintro e w7 ⟨ya, yn, yk, rfl, HY, gb⟩
      replace kRc := kRc.grew gb
      replace kQc := kQc.grew gb
      replace gc := gc.trans gb
      clear gb HBc hDo
      go_wp2_with (first | (refine st_nc rfl (.tmp 4) (.tmp 92) rfl rfl (headt (failC c)) kRc rfl (by rfl) (by rfl) ⟨_, _, _, rfl⟩ ?_; intro wd kRd od; have kQd := kQc.only od nQR) | (refine st_rm rfl (.tmp 5) (.tmp 96) rfl rfl kQd rfl (by rfl) (by rfl) ⟨_, _, _, rfl⟩ ?_; intro we kQe oe))
      have kRe := kRd.only oe nRQ
      have HYe := Lib.hid ((HY.out.only od kRc nb_zn).only oe kQd (nb_one _ (fun x h => by cases h)))
      have ge : Grew w we := oe.grew (od.grew gc LR.out) LQ.out
      exact bodyPost_ret (v := .tuple #[ncV (headt (failC c)) (.slice a1 6 j), .agg #[.slice ya yn yk], .slice none 0 0, .bool true]) (results_4 (p := 4) (q := 5) (r := 6) (s := 7) Try.results24 _ _ R Q kRe kQe rfl rfl) rfl ⟨_, _, _, _, _, _, _, _, rfl, Lib.hid (HN.out.grew ge), HYe, Lib.hid (Buf.nil _), ge⟩
    · go_upto_region 14 with fail
      refine region_over_tail 5 (by kernel_rfl) (by kernel_rfl) ?_
      simp only [List.take_succ_cons, List.take_zero, List.drop_succ_cons, List.drop_zero]
      repeat (first | (refine q_nc (by kernel_rfl) (.tmp 2) rfl _ rfl (fun _ ⟨z, e⟩ => e ▸ kN3.over z) (by rfl) ?_; simp only [Act.put, List.setIfInBounds_toArray, List.set_cons_zero, List.set_cons_succ]) | (refine q_rm (by kernel_rfl) (.tmp 3) rfl _ rfl (fun _ ⟨z, e⟩ => e ▸ kM3.over z) (by rfl) ?_; simp only [Act.put, List.setIfInBounds_toArray, List.set_cons_zero, List.set_cons_succ]) | go_big_quiet_step ((go_at_call 45; with_reducible exact over_grew (hWr.out _))))
      refine wpQuiet_nil ?_
      intro z
      have kRc := kR3.over z
      have kQc := kQ3.over z
      have HBc := Lib.hid (HB4.out.grew z.g)
      have gc := g3.trans z.g
      clear kN3 kM3 kR3 kQ3 HB4 g3
      generalize z.w = w6 at *
      clear z hWr
      go_wp2_with fail
      refine (hDo.out _ _ _ (HM.out.grew gc) HBc.out).mono ?_
      rintro e w7 ⟨ya, yn, yk, rfl, HY, gb⟩
      replace kRc := kRc.grew gb
      replace kQc := kQc.grew gb
      replace gc := gc.trans gb
      clear gb HBc hDo
      go_wp2_with (first | (refine st_nc rfl (.tmp 4) (.tmp 92) rfl rfl (headt (failC c)) kRc rfl (by rfl) (by rfl) ⟨_, _, _, rfl⟩ ?_; intro wd kRd od; have kQd := kQc.only od nQR) | (refine st_rm rfl (.tmp 5) (.tmp 96) rfl rfl kQd rfl (by rfl) (by rfl) ⟨_, _, _, rfl⟩ ?_; intro we kQe oe))
      have kRe := kRd.only oe nRQ
      have HYe := Lib.hid ((HY.out.only od kRc nb_zn).only oe kQd (nb_one _ (fun x h => by cases h)))
      have ge : Grew w we := oe.grew (od.grew gc LR.out) LQ.out
      exact bodyPost_ret (v := .tuple #[ncV (headt (failC c)) (.slice a1 6 j), .agg #[.slice ya yn yk], .slice none 0 0, .bool true]) (results_4 (p := 4) (q := 5) (r := 6) (s := 7) Try.results24 _ _ R Q kRe kQe rfl rfl) rfl ⟨_, _, _, _, _, _, _, _, rfl, Lib.hid (HN.out.grew ge), HYe, Lib.hid (Buf.nil _), ge⟩
set_option maxHeartbeats 4000000 in
theorem rSend_good {c : Nat → Int} {m : List Int} {a1 : Option Addr} {j : Nat} {a : Option Addr} {n k : Nat} {xs : List Int} {w : World} (hN : Buf w (.slice a1 m.length j) m) (hM : Buf w (.slice a n k) xs) (hl : xs.length ≤ 140737488355328) (h6 : m.length = 6) (hc : ROk c) (hw : waitst c = true) (hin : insideV xs.length (atT c) 16 = true) (ho : ownB (bytesV xs (atT c) 16) = true) (hf : (insideV xs.length (adrV (bytesV xs (atT c) 16)) (lenV (bytesV xs (atT c) 16)) && frameB (lenV (bytesV xs (atT c) 16))) = true) : Calls Try.prog 24 #[ncV c (.slice a1 6 j), .agg #[.slice a n k]] w fun e w' => ∃ a1 k1 a2 n2 k2 a3 n3 k3, e = .returned (.tuple #[ncV (headt (upd c 1 (orB 1 (c 1)))) (.slice a1 6 k1), .agg #[.slice a2 n2 k2], .slice a3 n3 k3, .bool true]) ∧ Hid (Buf w' (.slice a1 6 k1) m) ∧ Hid (Buf w' (.slice a2 n2 k2) (writeV xs (atT c + 10) 4 (bothV (bytesV xs (atT c) 16) 1))) ∧ Hid (Buf w' (.slice a3 n3 k3) (bytesV xs (adrV (bytesV xs (atT c) 16)) (lenV (bytesV xs (atT c) 16)))) ∧ Grew w w' := by
  have hC := rCheck_c c a1 6 j
  rw [ok_chk hc] at hC
  have HC := Lib.hid hC
  rw [h6] at hN
  have hw2 : c 0 % 2 ≠ 0 ∧ c 5 ≠ c 6 := by
    unfold waitst bitB at hw
    rw [Int.ediv_one] at hw
    simp only [Bool.and_eq_true, beq_iff_eq, bne_iff_ne] at hw
    omega
  have e0 : (c 0).tmod 2 = c 0 % 2 := Int.tmod_eq_emod_of_nonneg hc.r0.1
  have u0 : (c 0 % 2 == 0) = false := by simpa using hw2.1
  have u1 : (c 5 == c 6) = false := by simpa using hw2.2
  have r3 := hc.r3
  have r4 := hc.r4
  have r5 := hc.r5
  have q1 : IntKind.u64.wrap (c 5) = c 5 := IntWalk.u64_in _ (by omega)
  have q2 : IntKind.u64.wrap (16 * c 5) = 16 * c 5 := IntWalk.u64_in _ (by omega)
  have q3 : IntKind.u64.wrap (c 3 + 16 * c 5) = c 3 + 16 * c 5 := IntWalk.u64_in _ (by omega)
  have hBy := Lib.hid (fun (w : World) (h : Buf w (.slice a n k) xs) => refBytes_c (c 3 + 16 * c 5) 16 (by omega) (by omega) (by decide) (by decide) w h hl)
  have hA : atT c = c 3 + 16 * c 5 := rfl
  rw [hA] at hin ho hf ⊢
  rw [hin] at hBy
  have hok := bytesV_ok hM.ok (c 3 + 16 * c 5) 16
  have h16 := bytesV_16 hin
  rw [own_flag hok h16] at ho
  generalize bytesV xs (c 3 + 16 * c 5) 16 = ds at *
  have hd := hok.getD 10
  have d0 : (ds.getD 10 0).tmod 2 = ds.getD 10 0 % 2 := Int.tmod_eq_emod_of_nonneg hd.1
  have v0 : (ds.getD 10 0 % 2 == 0) = false := by
    unfold bitB at ho
    rw [Int.ediv_one] at ho
    simp only [beq_eq_false_iff_ne, beq_iff_eq, ne_eq] at ho ⊢
    omega
  have hpl := parts_lt hok h16
  have hG8 := Lib.hid (fun (w : World) (v : Value) (h : Buf w v (cutL ds 8 10)) => refGet_c false (hok.cut 8 10) (by rw [cutL_length (by decide) (by omega)]; decide) w h.bytes)
  have hG0 := Lib.hid (fun (w : World) (v : Value) (h : Buf w v (cutL ds 0 8)) => refGet_c false (hok.cut 0 8) (by rw [cutL_length (by decide) (by omega)]; decide) w h.bytes)
  change Hid (∀ w v, Buf w v (cutL ds 8 10) → Calls _ _ _ w fun e w' => e = .returned (.int .u64 (lenV ds)) ∧ w' = w) at hG8
  change Hid (∀ w v, Buf w v (cutL ds 0 8) → Calls _ _ _ w fun e w' => e = .returned (.int .u64 (adrV ds)) ∧ w' = w) at hG0
  have hB2 := Lib.hid (fun (w : World) (h : Buf w (.slice a n k) xs) => refBytes_c (adrV ds) (lenV ds) hpl.1.1 hpl.1.2 (by omega) (by omega) w h hl)
  have hDo := Lib.hid (fun (w : World) (b : Option Addr) (i : Nat) (h : Buf w (.slice a n k) xs) (hD : Buf w (.slice b ds.length i) ds) => rdone_c (x := c 3 + 16 * c 5) (st := 1) (by omega) (by omega) (by decide) (by decide) h hD h16 hl)
  rw [← done4 hok h16 (by decide) (by decide)] at hDo
  have hWV : fillV xs (c 3 + 16 * c 5 + 10) (putL (bothV ds 1) 4 false) = writeV xs (c 3 + 16 * c 5 + 10) 4 (bothV ds 1) := rfl
  rw [hWV] at hDo
  clear hWV
  have hWr := Lib.hid (fun (w : World) => rwrong_c (c := headt c) hc.r12.1 hc.r12.2 hc.r1.1 hc.r1.2 a1 6 j w)
  rw [fail_headt c] at hWr
  have hws : IntKind.i64.wrap (lenV ds) = lenV ds := IntWalk.i64_in _ (by omega)
  have q4 : IntKind.i64.wrap (c 5 + 1) = c 5 + 1 := IntWalk.i64_in _ (by omega)
  have q5 : (c 5 + 1).tmod (c 4) = (c 5 + 1) % c 4 := Int.tmod_eq_emod_of_nonneg (by omega)
  have q6 : c 4 ≠ 0 := by omega
  have q7 : (c 4 == 0) = false := by simpa using q6
  have HQ4 := Lib.hid (And.intro q4 (And.intro q5 (And.intro q6 q7)))
  generalize hf0 : ds.getD 10 0 = f0 at *
  have Hf0 := Lib.hid hf0
  have HD0 := Lib.hid (And.intro d0 v0)
  have H16 := Lib.hid h16
  have HOK := Lib.hid hok
  have HWS := Lib.hid hws
  have HN := Lib.hid hN
  have HM := Lib.hid hM
  have HF := Lib.hid hf
  have HC0 := Lib.hid hc
  generalize writeV xs (c 3 + 16 * c 5 + 10) 4 (bothV ds 1) = ys at *
  generalize lenV ds = sz at *
  generalize adrV ds = ad at *
  generalize insideV xs.length ad sz = iv at *
  clear hC hN hM hl hc hw h6 hA hin ho hok h16 hd d0 v0 hf0 hw2 r3 r4 r5 hpl hws q4 q5 q6 q7 hf
  go_enter Try.func24, Try.ntmps24
  go_upto_region 1 with fail
  have kN : Blk ((((w.alloc (.cells (ncA c (.slice a1 6 j)) 25)).alloc (.cells #[.slice a n k] 27)).alloc (.cells zeroN 25)).alloc (.cells #[.slice none 0 0] 27)) w.heap.size (ncA c (.slice a1 6 j)) 25 := (((Blk.new w (ncA c (.slice a1 6 j)) 25 _ rfl).alloc (.cells #[.slice a n k] 27)).alloc (.cells zeroN 25)).alloc (.cells #[.slice none 0 0] 27)
  have kM : Blk ((((w.alloc (.cells (ncA c (.slice a1 6 j)) 25)).alloc (.cells #[.slice a n k] 27)).alloc (.cells zeroN 25)).alloc (.cells #[.slice none 0 0] 27)) (w.heap.size + 1) #[.slice a n k] 27 := ((Blk.new (w.alloc (.cells (ncA c (.slice a1 6 j)) 25)) #[.slice a n k] 27 _ (by simp)).alloc (.cells zeroN 25)).alloc (.cells #[.slice none 0 0] 27)
  have kR : Blk ((((w.alloc (.cells (ncA c (.slice a1 6 j)) 25)).alloc (.cells #[.slice a n k] 27)).alloc (.cells zeroN 25)).alloc (.cells #[.slice none 0 0] 27)) (w.heap.size + 2) zeroN 25 := (Blk.new ((w.alloc (.cells (ncA c (.slice a1 6 j)) 25)).alloc (.cells #[.slice a n k] 27)) zeroN 25 _ (by simp)).alloc (.cells #[.slice none 0 0] 27)
  have kQ : Blk ((((w.alloc (.cells (ncA c (.slice a1 6 j)) 25)).alloc (.cells #[.slice a n k] 27)).alloc (.cells zeroN 25)).alloc (.cells #[.slice none 0 0] 27)) (w.heap.size + 3) #[.slice none 0 0] 27 := Blk.new (((w.alloc (.cells (ncA c (.slice a1 6 j)) 25)).alloc (.cells #[.slice a n k] 27)).alloc (.cells zeroN 25)) #[.slice none 0 0] 27 _ (by simp)
  have g0 : Grew w ((((w.alloc (.cells (ncA c (.slice a1 6 j)) 25)).alloc (.cells #[.slice a n k] 27)).alloc (.cells zeroN 25)).alloc (.cells #[.slice none 0 0] 27)) := ((((Grew.refl w).alloc (.cells (ncA c (.slice a1 6 j)) 25)).alloc (.cells #[.slice a n k] 27)).alloc (.cells zeroN 25)).alloc (.cells #[.slice none 0 0] 27)
  generalize ((((w.alloc (.cells (ncA c (.slice a1 6 j)) 25)).alloc (.cells #[.slice a n k] 27)).alloc (.cells zeroN 25)).alloc (.cells #[.slice none 0 0] 27)) = w0 at *
  have lN : w.heap.size ≤ w.heap.size := by omega
  have lM : w.heap.size ≤ (w.heap.size + 1) := by omega
  have lR : w.heap.size ≤ (w.heap.size + 2) := by omega
  have lQ : w.heap.size ≤ (w.heap.size + 3) := by omega
  have nNM : w.heap.size ≠ (w.heap.size + 1) := by omega
  have nNR : w.heap.size ≠ (w.heap.size + 2) := by omega
  have nNQ : w.heap.size ≠ (w.heap.size + 3) := by omega
  have nMN : (w.heap.size + 1) ≠ w.heap.size := by omega
  have nMR : (w.heap.size + 1) ≠ (w.heap.size + 2) := by omega
  have nMQ : (w.heap.size + 1) ≠ (w.heap.size + 3) := by omega
  have nRN : (w.heap.size + 2) ≠ w.heap.size := by omega
  have nRM : (w.heap.size + 2) ≠ (w.heap.size + 1) := by omega
  have nRQ : (w.heap.size + 2) ≠ (w.heap.size + 3) := by omega
  have nQN : (w.heap.size + 3) ≠ w.heap.size := by omega
  have nQM : (w.heap.size + 3) ≠ (w.heap.size + 1) := by omega
  have nQR : (w.heap.size + 3) ≠ (w.heap.size + 2) := by omega
  generalize (w.heap.size + 3) = Q at *
  generalize (w.heap.size + 2) = R at *
  generalize (w.heap.size + 1) = M at *
  generalize hZ : w.heap.size = N at *
  have HZ := Lib.hid hZ
  clear hZ
  have LN : Hid (w.heap.size ≤ N) := Lib.hid (by rw [HZ.out]; exact lN)
  have LM : Hid (w.heap.size ≤ M) := Lib.hid (by rw [HZ.out]; exact lM)
  have LR : Hid (w.heap.size ≤ R) := Lib.hid (by rw [HZ.out]; exact lR)
  have LQ : Hid (w.heap.size ≤ Q) := Lib.hid (by rw [HZ.out]; exact lQ)
  go_wp2_with (refine ld_nc rfl (.tmp 2) rfl _ rfl kN (by rfl) ?_)
  refine (HC.out _).mono ?_
  rintro e w1 ⟨rfl, g1⟩
  have kN1 := kN.grew g1
  have kM1 := kM.grew g1
  have kR1 := kR.grew g1
  have kQ1 := kQ.grew g1
  replace g1 := g0.trans g1
  clear kN kM kR kQ g0
  have y0 : w1.cell? ⟨N, 0, none⟩ = some (.int .i64 (c 0)) := kN1.cell 0
  have y3 : w1.cell? ⟨N, 3, none⟩ = some (.int .u64 (c 3)) := kN1.cell 3
  have y5 : w1.cell? ⟨N, 5, none⟩ = some (.int .i64 (c 5)) := kN1.cell 5
  have y6 : w1.cell? ⟨N, 6, none⟩ = some (.int .i64 (c 6)) := kN1.cell 6
  go_upto_region 4 with fail
  clear y0 y5 y6 y3 e0 u0 u1 q1 q2 q3
  go_wp2_with (refine ld_rm rfl (.tmp 3) rfl _ rfl kM1 (by rfl) ?_)
  refine (hBy.out _ (HM.out.grew g1)).mono ?_
  rintro e w2 ⟨u, rfl, HB, g2⟩
  obtain ⟨ub, uk, rfl, _, _⟩ := HB.shape
  replace kN1 := kN1.grew g2
  replace kM1 := kM1.grew g2
  replace kR1 := kR1.grew g2
  replace kQ1 := kQ1.grew g2
  replace g1 := g1.trans g2
  clear g2 hBy
  obtain ⟨b1, o1, eb1, c10, l10⟩ := HB.at 10 (by rw [H16.out]; decide) _ Hf0.out
  subst eb1
  obtain ⟨d0, v0⟩ := HD0.out
  have h10 : (10 : Int) < (ds.length : Int) := by rw [H16.out]; decide
  go_upto_region 10 with fail
  clear c10 l10 d0 v0 h10
  have y4 : w2.cell? ⟨N, 4, none⟩ = some (.int .i64 (c 4)) := kN1.cell 4
  have y5 : w2.cell? ⟨N, 5, none⟩ = some (.int .i64 (c 5)) := kN1.cell 5
  have f5 := kN1.free 5
  obtain ⟨q4, q5, q6, q7⟩ := HQ4.out
  go_upto_region 11 with fail
  have kN2 := kN1.nc (by decide : 5 < 13) (by decide) (by decide) ((c 5 + 1) % c 4)
  have o5 := Only.set w2 N 5 (.int .i64 ((c 5 + 1) % c 4))
  have kM2 := kM1.only o5 nMN
  have kR2 := kR1.only o5 nRN
  have kQ2 := kQ1.only o5 nQN
  have HB2 := HB.only o5 kN1 (nb_nc _ _ _ _)
  have g2 : Grew w _ := o5.grew g1 LN.out
  clear y4 y5 f5 q4 q5 q6 q7 kN1 kM1 kR1 kQ1 g1 o5 HB HQ4
  generalize (w2.setCell ⟨N, 5, none⟩ (.int .i64 ((c 5 + 1) % c 4))) = w3 at *
  replace kN2 : Blk w3 N (ncA (headt c) (.slice a1 6 j)) 25 := kN2
  obtain ⟨p8, q8, HL8, hx8, hr8, hy8, hz8⟩ := HB2.run_cut (lo := 8) (hi := 10) (by decide) (by rw [H16.out]; decide)
  obtain ⟨p0, q0, HL0, hx0, hy0, hr0, hz0⟩ := HB2.run_cut (lo := 0) (hi := 8) (by decide) (by rw [H16.out]; decide)
  replace hr0 := hr0 rfl
  have HR8 := Lib.hid (fun w' => (hr8 .i64 .i64 w' : (Instr.sliceAt 23 (.slice (some ⟨b1, o1, none⟩) ds.length uk) (some (.int .i64 8)) (some (.int .i64 10)) none).run Try.prog w' = .ok (.slice p8 2 q8) w'))
  have HR0 := Lib.hid (fun w' => (hr0 .i64 w' : (Instr.sliceAt 23 (.slice (some ⟨b1, o1, none⟩) ds.length uk) none (some (.int .i64 8)) none).run Try.prog w' = .ok (.slice p0 8 q0) w'))
  have HL0 : Hid (Buf w3 (.slice p0 8 q0) (cutL ds 0 8)) := Lib.hid HL0
  have HL8 : Hid (Buf w3 (.slice p8 2 q8) (cutL ds 8 10)) := Lib.hid HL8
  have HB3 := Lib.hid HB2
  clear hr8 hr0 HB2 hx8 hy8 hz8 hx0 hy0 hz0
  go_wp2_with (refine wpList_cut rfl _ (.tmp 68) (some (.const (.int .i64 8))) (some (.const (.int .i64 10))) rfl _ (by exact HR8.out _) ?_)
  refine (hG8.out _ _ HL8.out).mono ?_
  rintro e w4 ⟨rfl, h4⟩
  obtain rfl := h4.symm
  clear h4
  have hws := HWS.out
  go_upto_region 12 with fail
  clear hws
  refine wp_region_held_drew (S := fun w' => Grew w3 w') (by kernel_rfl) ((Grew.refl w3).drew1) (fun hHeld => ?_)
  replace hHeld : Grew w3 w3.drew := hHeld
  generalize w3.drew = wq0 at *
  refine wpAnyH_take (i := 0) (v := (.agg #[.slice a n k])) rfl (by kernel_rfl) (by kernel_rfl) (by kernel_rfl) (fun _ _ _ h => h) (yl_rm rfl (by rfl) (by rfl) fun _ h => kM2.grew h) hHeld ?_
  try simp only [List.getElem_toArray, List.getElem_cons_succ, List.getElem_cons_zero, Act.put, List.setIfInBounds_toArray, List.set_cons_zero, List.set_cons_succ]
  refine wpAnyH_take (i := 1) (v := ?_) rfl (by kernel_rfl) (by kernel_rfl) (by kernel_rfl) (fun _ _ _ h => h) (Or.inl ⟨by rfl, ?_⟩) hHeld ?_
  rotate_left
  · intro wq hSw
    replace hSw : Grew w3 wq := hSw
    go_simp
    try with_reducible rfl
  try simp only [List.getElem_toArray, List.getElem_cons_succ, List.getElem_cons_zero, Act.put, List.setIfInBounds_toArray, List.set_cons_zero, List.set_cons_succ]
  refine wpAnyH_take (i := 2) (v := .slice p0 8 q0) rfl (by kernel_rfl) (by kernel_rfl) (by kernel_rfl) (fun _ _ _ h => h) (yl_cut rfl (by rfl) (fun w => HR0.out w)) hHeld ?_
  try simp only [List.getElem_toArray, List.getElem_cons_succ, List.getElem_cons_zero, Act.put, List.setIfInBounds_toArray, List.set_cons_zero, List.set_cons_succ]
  refine wpAnyH_take (i := 4) (v := ?_) rfl (by kernel_rfl) (by kernel_rfl) (by kernel_rfl) (fun _ _ _ h => h) (Or.inl ⟨by rfl, ?_⟩) hHeld ?_
  rotate_left
  · intro wq hSw
    replace hSw : Grew w3 wq := hSw
    go_simp
    try with_reducible rfl
  try simp only [List.getElem_toArray, List.getElem_cons_succ, List.getElem_cons_zero, Act.put, List.setIfInBounds_toArray, List.set_cons_zero, List.set_cons_succ]
  refine wpAnyH_ready (rs := [3]) (by kernel_rfl) (by simp) ?_
  refine AllReadyH.cons rfl (fun K hK => ?_) AllReadyH.nil
  go_simp
  refine Calls.mono (hG0.out _ _ (HL0.out.grew hHeld)) ?_
  rintro e wa ⟨rfl, h4⟩
  obtain rfl := h4.symm
  clear h4
  refine hK.out _ _ (hHeld) (fun hHeld => ?_)
  clear hK K
  try simp only [List.getElem_toArray, List.getElem_cons_succ, List.getElem_cons_zero, Act.put, List.setIfInBounds_toArray, List.set_cons_zero, List.set_cons_succ]
  refine wpAnyH_ready (rs := [5]) (by kernel_rfl) (by simp) ?_
  refine AllReadyH.cons rfl (fun K hK => ?_) AllReadyH.nil
  go_simp
  refine Calls.mono (hB2.out _ (HM.out.grew (g2.trans hHeld))) ?_
  rintro e wb ⟨fu, rfl, HFr, gb⟩
  obtain ⟨fb, fk, rfl, hx1, hx2⟩ := HFr.shape
  have HFR := Lib.hid HFr
  clear hx1 hx2 HFr
  refine hK.out _ _ (hHeld.trans gb) (fun hHeld => ?_)
  clear hK K
  clear gb
  try simp only [List.getElem_toArray, List.getElem_cons_succ, List.getElem_cons_zero, Act.put, List.setIfInBounds_toArray, List.set_cons_zero, List.set_cons_succ]
  refine wpAnyH_take (i := 6) (v := ?_) rfl (by kernel_rfl) (by kernel_rfl) (by kernel_rfl) (fun _ _ _ h => h) (Or.inl ⟨by rfl, ?_⟩) hHeld ?_
  rotate_left
  · intro wq hSw
    replace hSw : Grew w3 wq := hSw
    go_simp
    try with_reducible rfl
  try simp only [List.getElem_toArray, List.getElem_cons_succ, List.getElem_cons_zero, Act.put, List.setIfInBounds_toArray, List.set_cons_zero, List.set_cons_succ]
  refine wpAnyH_take (i := 7) (v := ?_) rfl (by kernel_rfl) (by kernel_rfl) (by kernel_rfl) (fun _ _ _ h => h) (Or.inl ⟨by rfl, ?_⟩) hHeld ?_
  rotate_left
  · intro wq hSw
    replace hSw : Grew w3 wq := hSw
    go_simp
    try with_reducible rfl
  try simp only [List.getElem_toArray, List.getElem_cons_succ, List.getElem_cons_zero, Act.put, List.setIfInBounds_toArray, List.set_cons_zero, List.set_cons_succ]
  refine wpAnyH_take (i := 8) (v := ?_) rfl (by kernel_rfl) (by kernel_rfl) (by kernel_rfl) (fun _ _ _ h => h) (Or.inl ⟨by rfl, ?_⟩) hHeld ?_
  rotate_left
  · intro wq hSw
    replace hSw : Grew w3 wq := hSw
    go_simp
    try with_reducible rfl
  try simp only [List.getElem_toArray, List.getElem_cons_succ, List.getElem_cons_zero, Act.put, List.setIfInBounds_toArray, List.set_cons_zero, List.set_cons_succ]
  refine wpAnyH_take (i := 9) (v := ?_) rfl (by kernel_rfl) (by kernel_rfl) (by kernel_rfl) (fun _ _ _ h => h) (Or.inl ⟨by rfl, ?_⟩) hHeld ?_
  rotate_left
  · intro wq hSw
    replace hSw : Grew w3 wq := hSw
    go_simp
    try with_reducible rfl
  try simp only [List.getElem_toArray, List.getElem_cons_succ, List.getElem_cons_zero, Act.put, List.setIfInBounds_toArray, List.set_cons_zero, List.set_cons_succ]
  refine wpAnyH_take (i := 10) (v := ?_) rfl (by kernel_rfl) (by kernel_rfl) (by kernel_rfl) (fun _ _ _ h => h) (Or.inl ⟨by rfl, ?_⟩) hHeld ?_
  rotate_left
  · intro wq hSw
    replace hSw : Grew w3 wq := hSw
    go_simp
    try with_reducible rfl
  try simp only [List.getElem_toArray, List.getElem_cons_succ, List.getElem_cons_zero, Act.put, List.setIfInBounds_toArray, List.set_cons_zero, List.set_cons_succ]
  refine wpAnyH_done (by kernel_rfl) ?_ _
  try simp only [List.getElem_toArray, List.getElem_cons_succ, List.getElem_cons_zero, Act.put, List.setIfInBounds_toArray, List.set_cons_zero, List.set_cons_succ]
  have kN3 := kN2.grew hHeld
  have kM3 := kM2.grew hHeld
  have kR3 := kR2.grew hHeld
  have kQ3 := kQ2.grew hHeld
  have HB4 := Lib.hid (HB3.out.grew hHeld)
  have g3 := g2.trans hHeld
  clear kN2 kM2 kR2 kQ2 HB3 g2 HL0 HL8 HR0 HR8 hB2 hG0 hG8
  clear hHeld
  generalize wb = w5 at *
  have hf := HF.out
  clear HF
  cases iv
  · simp only [Bool.false_and] at hf; cases hf
  · have hs : ¬ (sz < 14) ∧ ¬ (1514 < sz) := by
      simp only [frameB, Bool.true_and, Bool.and_eq_true, decide_eq_true_eq] at hf
      omega
    clear hf
    obtain ⟨hs, hs2⟩ := hs
    have hr1 := HC0.out.r1
    have e1 : bits .or .i64 (c 1) 1 = orB 1 (c 1) := or_i64_1 hr1.1 hr1.2
    clear hr1
    have y1 : w5.cell? ⟨N, 1, none⟩ = some (.int .i64 (c 1)) := kN3.cell 1
    have f1 := kN3.free 1
    go_upto_region 16 with fail
    have kN4 := kN3.nc (by decide : 1 < 13) (by decide) (by decide) (orB 1 (c 1))
    have o6 := Only.set w5 N 1 (.int .i64 (orB 1 (c 1)))
    have kM4 := kM3.only o6 nMN
    have kRc := (kR3.only o6 nRN).drew
    have kQc := (kQ3.only o6 nQN).drew
    have HBc := Lib.hid (HB4.out.only o6 kN3 (nb_nc _ _ _ _)).drew
    have HFc := Lib.hid (HFR.out.only o6 kN3 (nb_nc _ _ _ _)).drew
    have gc : Grew w _ := (o6.grew g3 LN.out).drew1
    clear y1 f1 e1 kN3 kM3 kR3 kQ3 g3 HB4 HFR o6
    generalize (w5.setCell ⟨N, 1, none⟩ (.int .i64 (orB 1 (c 1)))) = w6 at *
    refine wp_region_held_drew (S := fun w' => Blk w' N (ncA (upd (headt c) 1 (orB 1 (c 1))) (.slice a1 6 j)) 25 ∧ Blk w' M #[.slice a n k] 27) (by kernel_rfl) (⟨kN4.drew, kM4.drew⟩) (fun hHeld => ?_)
    replace hHeld : Blk w6.drew N (ncA (upd (headt c) 1 (orB 1 (c 1))) (.slice a1 6 j)) 25 ∧ Blk w6.drew M #[.slice a n k] 27 := hHeld
    generalize w6.drew = wq6 at *
    refine wpAnyH_take (i := 0) (v := (ncV (upd (headt c) 1 (orB 1 (c 1))) (.slice a1 6 j))) rfl (by kernel_rfl) (by kernel_rfl) (by kernel_rfl) (fun _ _ _ h => h) (yl_nc rfl (by rfl) (by rfl) fun _ h => h.1) hHeld ?_
    try simp only [List.getElem_toArray, List.getElem_cons_succ, List.getElem_cons_zero, Act.put, List.setIfInBounds_toArray, List.set_cons_zero, List.set_cons_succ]
    refine wpAnyH_take (i := 1) (v := (.agg #[.slice a n k])) rfl (by kernel_rfl) (by kernel_rfl) (by kernel_rfl) (fun _ _ _ h => h) (yl_rm rfl (by rfl) (by rfl) fun _ h => h.2) hHeld ?_
    try simp only [List.getElem_toArray, List.getElem_cons_succ, List.getElem_cons_zero, Act.put, List.setIfInBounds_toArray, List.set_cons_zero, List.set_cons_succ]
    refine wpAnyH_take (i := 2) (v := ?_) rfl (by kernel_rfl) (by kernel_rfl) (by kernel_rfl) (fun _ _ _ h => h) (Or.inl ⟨by rfl, ?_⟩) hHeld ?_
    rotate_left
    · intro wq hSw
      replace hSw : Blk wq N (ncA (upd (headt c) 1 (orB 1 (c 1))) (.slice a1 6 j)) 25 ∧ Blk wq M #[.slice a n k] 27 := hSw
      go_simp
      try with_reducible rfl
    try simp only [List.getElem_toArray, List.getElem_cons_succ, List.getElem_cons_zero, Act.put, List.setIfInBounds_toArray, List.set_cons_zero, List.set_cons_succ]
    refine wpAnyH_take (i := 3) (v := ?_) rfl (by kernel_rfl) (by kernel_rfl) (by kernel_rfl) (fun _ _ _ h => h) (Or.inl ⟨by rfl, ?_⟩) hHeld ?_
    rotate_left
    · intro wq hSw
      replace hSw : Blk wq N (ncA (upd (headt c) 1 (orB 1 (c 1))) (.slice a1 6 j)) 25 ∧ Blk wq M #[.slice a n k] 27 := hSw
      go_simp
      try with_reducible rfl
    try simp only [List.getElem_toArray, List.getElem_cons_succ, List.getElem_cons_zero, Act.put, List.setIfInBounds_toArray, List.set_cons_zero, List.set_cons_succ]
    refine wpAnyH_take (i := 5) (v := ?_) rfl (by kernel_rfl) (by kernel_rfl) (by kernel_rfl) (fun _ _ _ h => h) (Or.inl ⟨by rfl, ?_⟩) hHeld ?_
    rotate_left
    · intro wq hSw
      replace hSw : Blk wq N (ncA (upd (headt c) 1 (orB 1 (c 1))) (.slice a1 6 j)) 25 ∧ Blk wq M #[.slice a n k] 27 := hSw
      go_simp
      try with_reducible rfl
    try simp only [List.getElem_toArray, List.getElem_cons_succ, List.getElem_cons_zero, Act.put, List.setIfInBounds_toArray, List.set_cons_zero, List.set_cons_succ]
    refine wpAnyH_ready (rs := [4]) (by kernel_rfl) (by simp) ?_
    refine AllReadyH.cons rfl (fun K hK => ?_) AllReadyH.nil
    go_simp
    refine Calls.mono (hDo.out _ _ _ (HM.out.grew gc) HBc.out) ?_
    rintro e wb2 ⟨ya, yn, yk, rfl, HY, gb⟩
    refine hK.out _ _ (⟨hHeld.1.grew gb, hHeld.2.grew gb⟩) (fun hHeld => ?_)
    clear hK K
    replace kRc := kRc.grew gb
    replace kQc := kQc.grew gb
    replace HFc := Lib.hid (HFc.out.grew gb)
    replace gc := gc.trans gb
    clear gb HBc
    try simp only [List.getElem_toArray, List.getElem_cons_succ, List.getElem_cons_zero, Act.put, List.setIfInBounds_toArray, List.set_cons_zero, List.set_cons_succ]
    refine wpAnyH_ready (rs := [6]) (by kernel_rfl) (by simp) ?_
    refine AllReadyH.cons rfl (fun K hK => ?_) AllReadyH.nil
    refine step_st_nc rfl (.tmp 4) (.tmp 101) rfl rfl (upd (headt c) 1 (orB 1 (c 1))) kRc rfl (by rfl) (by rfl) ⟨_, _, _, rfl⟩ ?_
    intro wd kRd od
    refine hK.out _ _ (⟨hHeld.1.only od nNR, hHeld.2.only od nMR⟩) (fun hHeld => ?_)
    clear hK K
    have kQd := kQc.only od nQR
    have HYd := Lib.hid (HY.out.only od kRc nb_zn)
    have HFd := Lib.hid (HFc.out.only od kRc nb_zn)
    have gd : Grew w wd := od.grew gc LR.out
    clear kRc kQc gc od HY HFc
    try simp only [List.getElem_toArray, List.getElem_cons_succ, List.getElem_cons_zero, Act.put, List.setIfInBounds_toArray, List.set_cons_zero, List.set_cons_succ]
    refine wpAnyH_ready (rs := [7]) (by kernel_rfl) (by simp) ?_
    refine AllReadyH.cons rfl (fun K hK => ?_) AllReadyH.nil
    refine step_st_rm rfl (.tmp 5) (.tmp 105) rfl rfl kQd rfl (by rfl) (by rfl) ⟨_, _, _, rfl⟩ ?_
    intro we kQe oe
    refine hK.out _ _ (⟨hHeld.1.only oe nNQ, hHeld.2.only oe nMQ⟩) (fun hHeld => ?_)
    clear hK K
    have kRe := kRd.only oe nRQ
    have HYe := Lib.hid (HYd.out.only oe kQd (nb_one _ (fun x h => by cases h)))
    have HFe := Lib.hid (HFd.out.only oe kQd (nb_one _ (fun x h => by cases h)))
    have ge : Grew w we := oe.grew gd LQ.out
    clear kRd kQd gd oe HYd HFd
    try simp only [List.getElem_toArray, List.getElem_cons_succ, List.getElem_cons_zero, Act.put, List.setIfInBounds_toArray, List.set_cons_zero, List.set_cons_succ]
    refine wpAnyH_take (i := 8) (v := ?_) rfl (by kernel_rfl) (by kernel_rfl) (by kernel_rfl) (fun _ _ _ h => h) (Or.inl ⟨by rfl, ?_⟩) hHeld ?_
    rotate_left
    · intro wq hSw
      replace hSw : Blk wq N (ncA (upd (headt c) 1 (orB 1 (c 1))) (.slice a1 6 j)) 25 ∧ Blk wq M #[.slice a n k] 27 := hSw
      go_simp
      try with_reducible rfl
    try simp only [List.getElem_toArray, List.getElem_cons_succ, List.getElem_cons_zero, Act.put, List.setIfInBounds_toArray, List.set_cons_zero, List.set_cons_succ]
    refine wpAnyH_take (i := 9) (v := ?_) rfl (by kernel_rfl) (by kernel_rfl) (by kernel_rfl) (fun _ _ _ h => h) (Or.inl ⟨by rfl, ?_⟩) hHeld ?_
    rotate_left
    · intro wq hSw
      replace hSw : Blk wq N (ncA (upd (headt c) 1 (orB 1 (c 1))) (.slice a1 6 j)) 25 ∧ Blk wq M #[.slice a n k] 27 := hSw
      go_simp
      try with_reducible rfl
    try simp only [List.getElem_toArray, List.getElem_cons_succ, List.getElem_cons_zero, Act.put, List.setIfInBounds_toArray, List.set_cons_zero, List.set_cons_succ]
    refine wpAnyH_done (by kernel_rfl) ?_ _
    try simp only [List.getElem_toArray, List.getElem_cons_succ, List.getElem_cons_zero, Act.put, List.setIfInBounds_toArray, List.set_cons_zero, List.set_cons_succ]
    go_wp2_with fail
    rw [or_headt c] at kRe
    exact bodyPost_ret (v := .tuple #[ncV (headt (upd c 1 (orB 1 (c 1)))) (.slice a1 6 j), .agg #[.slice ya yn yk], .slice fb (bytesV xs ad sz).length fk, .bool true]) (results_4 (p := 4) (q := 5) (r := 6) (s := 7) Try.results24 _ _ R Q kRe kQe rfl rfl) rfl ⟨_, _, _, _, _, _, _, _, rfl, Lib.hid (HN.out.grew ge), HYe, HFe, ge⟩
end Go.Proofs.Ytoehdhhodidehaa
