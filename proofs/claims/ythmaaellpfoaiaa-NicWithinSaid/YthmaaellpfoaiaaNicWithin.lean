/-
  The statement that nothing of memory is another but bytes of the buffer of the descriptor at the head, which was the controller's, and six of that descriptor. For every controller, memory and frame. Conditions: none.
-/
import Derived.Test.YthmaaellpfoaiaaRows
import Derived.Test.YthmaaellpfoaiaaNcI2
import Derived.Test.YthmaaellpfoaiaaLaw
import Derived.Deep.QuietTactic
import Derived.BigQuiet
import Derived.Deep.DeepCutAuto
import Derived.BigFrame
import Derived.Deep.RegionHeld3
set_option maxRecDepth 4000
set_option linter.unusedVariables false
set_option linter.unusedSimpArgs false
namespace Go.Proofs.Ythmaaellpfoaiaa.nicWithin
open Go.ChangeShapes Go.WideShapes Go.ChangeAt Go.RowKit Go.Proofs.Ythmaaellpfoaiaa

set_option maxHeartbeats 2000000 in
theorem walk_far (c : Nat → Int) (n6 : Nat) (na : Option Addr) (nk : Nat) (ra : Option Addr) (rn rc : Nat) (fa : Option Addr) (fn fm : Nat) (W : World) (b1 b2 b3 : Bool) (h1 : decide ((70000 : Int) < (rn : Nat)) = b1) (h2 : decide ((3000 : Int) < (fn : Nat)) = b2) (h3 : chkB c n6 = b3) (hb : (b1 || b2 || !b3) = true) :
    Calls Try.prog 8 #[ncV c (.slice na n6 nk), .agg #[.slice ra rn rc], .slice fa fn fm] W fun e w' => e = .returned (.bool true) ∧ Below W.heap.size W w' := by
  have hC := check_c c na n6 nk
  rw [h3] at hC
  have HC := Lib.hid hC
  clear hC h3
  cases b1 <;> cases b2 <;> cases b3
  case false.false.true => simp at hb
  all_goals
    clear hb
    go_enter Try.func8, Try.ntmps8
    go_upto_region 1 with fail
    have kN : Blk ((W.alloc (.cells (ncA c (.slice na n6 nk)) 25)).alloc (.cells #[.slice ra rn rc] 27)) W.heap.size (ncA c (.slice na n6 nk)) 25 := (Blk.new W (ncA c (.slice na n6 nk)) 25 _ rfl).alloc (.cells #[.slice ra rn rc] 27)
    have kM : Blk ((W.alloc (.cells (ncA c (.slice na n6 nk)) 25)).alloc (.cells #[.slice ra rn rc] 27)) (W.heap.size + 1) #[.slice ra rn rc] 27 := Blk.new (W.alloc (.cells (ncA c (.slice na n6 nk)) 25)) #[.slice ra rn rc] 27 _ (by simp)
    have g0 : Grew W ((W.alloc (.cells (ncA c (.slice na n6 nk)) 25)).alloc (.cells #[.slice ra rn rc] 27)) := ((Grew.refl W).alloc (.cells (ncA c (.slice na n6 nk)) 25)).alloc (.cells #[.slice ra rn rc] 27)
    generalize ((W.alloc (.cells (ncA c (.slice na n6 nk)) 25)).alloc (.cells #[.slice ra rn rc] 27)) = w0 at *
    have lN : W.heap.size ≤ W.heap.size := by omega
    have lM : W.heap.size ≤ (W.heap.size + 1) := by omega
    have nNM : W.heap.size ≠ (W.heap.size + 1) := by omega
    have nMN : (W.heap.size + 1) ≠ W.heap.size := by omega
    generalize (W.heap.size + 1) = M at *
    generalize hZ : W.heap.size = N at *
    have HZ := Lib.hid hZ
    clear hZ
    have LN : Hid (W.heap.size ≤ N) := Lib.hid (by rw [HZ.out]; exact lN)
    have LM : Hid (W.heap.size ≤ M) := Lib.hid (by rw [HZ.out]; exact lM)
    have y0 := kM.cell 0
    try
      go_wp2_with (refine lw_nc (by rfl) (.tmp 3) rfl _ rfl kN (by rfl) ?_)
      refine (HC.out _).mono ?_
      rintro e w1 ⟨rfl, g1⟩
    go_wp2_with fail
    first
      | refine (heads_c (g0.trans g1)).mono ?_
      | refine (heads_c g0).mono ?_
    rintro e wh ⟨rfl, gh⟩
    go_wp2_with fail
    go_ret
    exact ⟨rfl, gh⟩
set_option maxRecDepth 100000 in
set_option maxHeartbeats 40000000 in
theorem walk_near (c : Nat → Int) (m : List Int) (na : Option Addr) (nk : Nat) (ra : Option Addr) (rn rc : Nat) (xs : List Int) (fa : Option Addr) (fn fm : Nat) (fs : List Int) (W : World) (hN : Buf W (.slice na 6 nk) m) (h6 : m.length = 6) (hmo : MacOf c m) (hc : ROk c) (hR : Buf W (.slice ra rn rc) xs) (hF : Buf W (.slice fa fn fm) fs) (h1 : ¬ ((70000 : Int) < (rn : Nat))) (h2 : ¬ ((3000 : Int) < (fn : Nat))) :
    Calls Try.prog 8 #[ncV c (.slice na 6 nk), .agg #[.slice ra rn rc], .slice fa fn fm] W fun e w' => e = .returned (.bool true) ∧ Below W.heap.size W w' := by
  have hC := check_c c na 6 nk
  rw [ok_chk hc] at hC
  have HC := Lib.hid hC
  obtain ⟨hrn, q0⟩ := hR.lenEq
  have hl : xs.length ≤ 70000 := by omega
  clear hC q0
  have hSe := Lib.hid (fun (w : World) (h : Buf w (.slice na m.length nk) m) (h2 : Buf w (.slice ra rn rc) xs) => Send_c hmo h h2 (by omega) (by omega))
  unfold sendS at hSe
  rw [h6, ok_chk hc] at hSe
  simp only [if_true] at hSe
  have hRe := Lib.hid (fun (w : World) (h : Buf w (.slice na m.length nk) m) (h2 : Buf w (.slice ra rn rc) xs) (h3 : Buf w (.slice fa fn fm) fs) => Receive_c hmo h h2 h3 (by omega) (by omega))
  unfold recvS at hRe
  rw [h6, ok_chk hc] at hRe
  simp only [if_true] at hRe
  have hl1 := sendR_len c xs
  have hl2 := recvR_len c xs fs
  have hel := fun i => sendR_else (c := c) (xs := xs) (i := i)
  have her := fun i => recvR_else (c := c) (xs := xs) (fs := fs) (i := i) hR.ok
  have r3 := hc.r3
  have r4 := hc.r4
  have r5 := hc.r5
  have r7 := hc.r7
  have r8 := hc.r8
  have r9 := hc.r9
  have hq1 : IntKind.u64.wrap (c 5) = c 5 := IntWalk.u64_in _ (by omega)
  have hq2 : IntKind.u64.wrap (16 * c 5) = 16 * c 5 := IntWalk.u64_in _ (by omega)
  have hq3 : IntKind.u64.wrap (c 3 + 16 * c 5) = c 3 + 16 * c 5 := IntWalk.u64_in _ (by omega)
  have hq4 : IntKind.u64.wrap (c 9) = c 9 := IntWalk.u64_in _ (by omega)
  have hq5 : IntKind.u64.wrap (16 * c 9) = 16 * c 9 := IntWalk.u64_in _ (by omega)
  have hq6 : IntKind.u64.wrap (c 7 + 16 * c 9) = c 7 + 16 * c 9 := IntWalk.u64_in _ (by omega)
  have hax : atT c = c 3 + 16 * c 5 := rfl
  have hay : atR c = c 7 + 16 * c 9 := rfl
  have tb : 0 ≤ c 3 + 16 * c 5 ∧ c 3 + 16 * c 5 < 4294968320 := by omega
  have rb : 0 ≤ c 7 + 16 * c 9 ∧ c 7 + 16 * c 9 < 4294968320 := by omega
  rw [hax] at hel
  rw [hay] at her
  clear hax hay
  have HQ := Lib.hid (And.intro hq1 (And.intro hq2 (And.intro hq3 (And.intro hq4 (And.intro hq5 hq6)))))
  clear hq1 hq2 hq3 hq4 hq5 hq6 r3 r4 r5 r7 r8 r9
  generalize hT : c 3 + 16 * c 5 = tx at *
  generalize hRX : c 7 + 16 * c 9 = rx at *
  have hr1 := Lib.hid (fun (w : World) (h2 : Buf w (.slice ra rn rc) xs) => refRead_c (rx + 10) 1 (by omega) (by omega) (by decide) (by decide) w h2 (by omega))
  have hr2 := Lib.hid (fun (w : World) (h2 : Buf w (.slice ra rn rc) xs) => refRead_c rx 8 (by omega) (by omega) (by decide) (by decide) w h2 (by omega))
  have hr3 := Lib.hid (fun (w : World) (h2 : Buf w (.slice ra rn rc) xs) => refRead_c (rx + 8) 2 (by omega) (by omega) (by decide) (by decide) w h2 (by omega))
  have hw10 : IntKind.u64.wrap (rx + 10) = rx + 10 := IntWalk.u64_in _ (by omega)
  have hw8 : IntKind.u64.wrap (rx + 8) = rx + 8 := IntWalk.u64_in _ (by omega)
  have hwt : IntKind.u64.wrap (tx + 10) = tx + 10 := IntWalk.u64_in _ (by omega)
  have fb := readV_nn hR.ok (rx + 10) 1
  have bb := readV_lt8 hR.ok rx 8
  have sb := readV_lt2 hR.ok (rx + 8)
  have hmf : (readV xs (rx + 10) 1).tmod 2 = readV xs (rx + 10) 1 % 2 := Int.tmod_eq_emod_of_nonneg fb
  have hws : IntKind.i64.wrap (readV xs (rx + 8) 2) = readV xs (rx + 8) 2 := IntWalk.i64_in _ (by omega)
  generalize readV xs (rx + 10) 1 = fl at *
  generalize readV xs rx 8 = bu at *
  generalize readV xs (rx + 8) 2 = sz at *
  rw [← hrn] at hl1 hl2
  generalize (sendR c xs).c = c2 at *
  generalize (sendR c xs).xs = ys at *
  generalize (sendR c xs).f = ff at *
  generalize (sendR c xs).b = ok2 at *
  generalize (recvR c xs fs).c = c3 at *
  generalize (recvR c xs fs).xs = zs at *
  generalize (recvR c xs fs).b = ok3 at *
  have HN := Lib.hid hN
  have HR := Lib.hid hR
  have HF := Lib.hid hF
  have HL1 := Lib.hid hl1
  have HL2 := Lib.hid hl2
  have HEL := Lib.hid hel
  have HER := Lib.hid her
  have HXL := Lib.hid hrn
  have HT := Lib.hid hT
  have HRX := Lib.hid hRX
  have HTB := Lib.hid tb
  have HRB := Lib.hid rb
  have HBB := Lib.hid bb
  have HSB := Lib.hid sb
  have HFB := Lib.hid fb
  have HW := Lib.hid (And.intro hw10 (And.intro hw8 (And.intro hwt (And.intro hmf hws))))
  clear hN hR hF hc hmo hl hl1 hl2 hel her hrn h6 hT hRX tb rb bb sb fb hw10 hw8 hwt hmf hws
  go_enter Try.func8, Try.ntmps8
  go_upto_region 1 with fail
  have kN : Blk ((W.alloc (.cells (ncA c (.slice na 6 nk)) 25)).alloc (.cells #[.slice ra rn rc] 27)) W.heap.size (ncA c (.slice na 6 nk)) 25 := (Blk.new W (ncA c (.slice na 6 nk)) 25 _ rfl).alloc (.cells #[.slice ra rn rc] 27)
  have kM : Blk ((W.alloc (.cells (ncA c (.slice na 6 nk)) 25)).alloc (.cells #[.slice ra rn rc] 27)) (W.heap.size + 1) #[.slice ra rn rc] 27 := Blk.new (W.alloc (.cells (ncA c (.slice na 6 nk)) 25)) #[.slice ra rn rc] 27 _ (by simp)
  have g0 : Grew W ((W.alloc (.cells (ncA c (.slice na 6 nk)) 25)).alloc (.cells #[.slice ra rn rc] 27)) := ((Grew.refl W).alloc (.cells (ncA c (.slice na 6 nk)) 25)).alloc (.cells #[.slice ra rn rc] 27)
  generalize ((W.alloc (.cells (ncA c (.slice na 6 nk)) 25)).alloc (.cells #[.slice ra rn rc] 27)) = w0 at *
  have lN : W.heap.size ≤ W.heap.size := by omega
  have lM : W.heap.size ≤ (W.heap.size + 1) := by omega
  have nNM : W.heap.size ≠ (W.heap.size + 1) := by omega
  have nMN : (W.heap.size + 1) ≠ W.heap.size := by omega
  generalize (W.heap.size + 1) = M at *
  generalize hZ : W.heap.size = N at *
  have HZ := Lib.hid hZ
  clear hZ
  have LN : Hid (W.heap.size ≤ N) := Lib.hid (by rw [HZ.out]; exact lN)
  have LM : Hid (W.heap.size ≤ M) := Lib.hid (by rw [HZ.out]; exact lM)
  have y0 := kM.cell 0
  go_wp2_with (refine lw_nc (by rfl) (.tmp 3) rfl _ rfl kN (by rfl) ?_)
  refine (HC.out _).mono ?_
  rintro e w1 ⟨rfl, g1⟩
  have kN := kN.grew g1
  have kM := kM.grew g1
  have G3 := g0.trans g1
  clear y0 g0 g1
  go_upto_region 3 with fail
  go_wp2_with (first | (refine ld_nc rfl (.tmp 3) rfl _ rfl kN (by rfl) ?_) | (refine ld_rm rfl (.tmp 4) rfl _ rfl kM (by rfl) ?_))
  refine (hSe.out _ (HN.out.grew G3) (HR.out.grew G3)).mono ?_
  rintro e w3 ⟨s1, s2, s3, s4, s5, s6, s7, s8, rfl, P1, P2, P3, g3⟩
  have e4 := P2.out.lenEq.1
  rw [HL1.out] at e4
  subst e4
  replace kN := kN.grew g3
  replace kM := kM.grew g3
  replace G3 := G3.trans g3
  clear g3 P1 P3
  go_upto_region 4 with (first | (refine al_nc rfl rfl ?_; intro wa kB0 gB) | (refine al_rm rfl rfl ?_; intro wc kD0 gD) | (refine st_nc rfl (.tmp 7) (.tmp 43) rfl rfl c2 (kB0.grew gD) rfl (by rfl) (by rfl) ⟨_, _, _, rfl⟩ ?_; intro wd kB oB) | (refine st_rm rfl (.tmp 8) (.tmp 44) rfl rfl (kD0.only oB (by have := kB0.lt; omega)) rfl (by rfl) (by rfl) ⟨_, _, _, rfl⟩ ?_; intro we kD oD))
  have gbe : Grew w3 we := oD.grew (oB.grew (gB.trans gD) (Nat.le_refl _)) gB.size
  replace P2 := Lib.hid (P2.out.grew gbe)
  replace kN := kN.grew gbe
  replace kM := kM.grew gbe
  replace G3 := G3.trans gbe
  clear gbe kB0 gB kD0 gD oB oD kB
  generalize w3.heap.size = B at *
  generalize wa.heap.size = D at *
  go_wp2_with (first | (refine ld_nc rfl (.tmp 3) rfl _ rfl kN (by rfl) ?_) | (refine ld_rm rfl (.tmp 4) rfl _ rfl kM (by rfl) ?_))
  refine (hRe.out _ (HN.out.grew G3) (HR.out.grew G3) (HF.out.grew G3)).mono ?_
  rintro e w4 ⟨t1, t2, t3, t4, t5, rfl, Q1, Q2, g4⟩
  have e5 := Q2.out.lenEq.1
  rw [HL2.out] at e5
  subst e5
  replace kN := kN.grew g4
  replace kM := kM.grew g4
  replace kD := kD.grew g4
  replace P2 := Lib.hid (P2.out.grew g4)
  replace G3 := G3.trans g4
  clear g4 Q1
  go_upto_region 5 with (first | (refine al_nc rfl rfl ?_; intro wf kE0 gE) | (refine al_rm rfl rfl ?_; intro wg kF0 gF) | (refine st_nc rfl (.tmp 11) (.tmp 52) rfl rfl c3 (kE0.grew gF) rfl (by rfl) (by rfl) ⟨_, _, _, rfl⟩ ?_; intro wh kE oE) | (refine st_rm rfl (.tmp 12) (.tmp 53) rfl rfl (kF0.only oE (by have := kE0.lt; omega)) rfl (by rfl) (by rfl) ⟨_, _, _, rfl⟩ ?_; intro wi kF oF))
  have gei : Grew w4 wi := oF.grew (oE.grew (gE.trans gF) (Nat.le_refl _)) gE.size
  replace Q2 := Lib.hid (Q2.out.grew gei)
  replace kN := kN.grew gei
  replace kM := kM.grew gei
  replace kD := kD.grew gei
  replace P2 := Lib.hid (P2.out.grew gei)
  replace G3 := G3.trans gei
  clear gei kE0 gE kF0 gF oE oF kE
  generalize w4.heap.size = E at *
  generalize wf.heap.size = FF at *
  have y0 := kM.cell 0
  have y1 := kD.cell 0
  have y2 := kF.cell 0
  go_upto_region 7 with fail
  clear y0 y1 y2
  obtain ⟨hq1, hq2, hq3, hq4, hq5, hq6⟩ := HQ.out
  have eT := HT.out
  have eRX := HRX.out
  have z3 := fun z : Over wi => kN.overCell 3 (.int .u64 (c 3)) rfl z
  have z5 := fun z : Over wi => kN.overCell 5 (.int .i64 (c 5)) rfl z
  have z7 := fun z : Over wi => kN.overCell 7 (.int .u64 (c 7)) rfl z
  have z9 := fun z : Over wi => kN.overCell 9 (.int .i64 (c 9)) rfl z
  refine region_over (by kernel_rfl) (by kernel_rfl) ?_
  repeat (first | go_big_quiet_step (fail) | quiet_step (fail))
  refine wpQuiet_nil ?_
  intro z
  have gz := z.g
  replace kN := kN.grew gz
  replace kM := kM.grew gz
  replace kD := kD.grew gz
  replace kF := kF.grew gz
  replace P2 := Lib.hid (P2.out.grew gz)
  replace Q2 := Lib.hid (Q2.out.grew gz)
  replace G3 := G3.trans gz
  clear z3 z5 z7 z9 gz hq1 hq2 hq3 hq4 hq5 hq6 eT eRX
  generalize z.w = w5 at *
  obtain ⟨hw10, hw8, hwt, hmf, hws⟩ := HW.out
  go_wp2_with (refine ld_rm rfl (.tmp 4) rfl _ rfl kM (by rfl) ?_)
  refine (hr1.out _ (HR.out.grew G3)).mono ?_
  rintro e w6 ⟨rfl, g6⟩
  replace kM := kM.grew g6
  replace kD := kD.grew g6
  replace kF := kF.grew g6
  replace P2 := Lib.hid (P2.out.grew g6)
  replace Q2 := Lib.hid (Q2.out.grew g6)
  replace G3 := G3.trans g6
  clear g6
  go_wp2_with (refine ld_rm rfl (.tmp 4) rfl _ rfl kM (by rfl) ?_)
  refine (hr2.out _ (HR.out.grew G3)).mono ?_
  rintro e w7 ⟨rfl, g7⟩
  replace kM := kM.grew g7
  replace kD := kD.grew g7
  replace kF := kF.grew g7
  replace P2 := Lib.hid (P2.out.grew g7)
  replace Q2 := Lib.hid (Q2.out.grew g7)
  replace G3 := G3.trans g7
  clear g7
  go_wp2_with (refine ld_rm rfl (.tmp 4) rfl _ rfl kM (by rfl) ?_)
  refine (hr3.out _ (HR.out.grew G3)).mono ?_
  rintro e w8 ⟨rfl, g8⟩
  replace kM := kM.grew g8
  replace kD := kD.grew g8
  replace kF := kF.grew g8
  replace P2 := Lib.hid (P2.out.grew g8)
  replace Q2 := Lib.hid (Q2.out.grew g8)
  replace G3 := G3.trans g8
  clear g8 hr1 hr2 hr3 hSe hRe HC kN HQ
  go_upto_region 12 with fail
  go_loopw [22] (fun i wr => ∃ k : Nat, k ≤ t4 ∧ i = .int .i64 k ∧ Hid (Blk wr M #[.slice ra t4 rc] 27) ∧ Hid (Blk wr D #[.slice s3 t4 s5] 27) ∧ Hid (Blk wr FF #[.slice t3 t4 t5] 27) ∧ Hid (Buf wr (.slice s3 t4 s5) ys) ∧ Hid (Buf wr (.slice t3 t4 t5) zs) ∧ Grew W wr) (fun i _ => t4 - (intOf i).toNat)
  case atStart => exact ⟨0, Nat.zero_le _, rfl, Lib.hid kM, Lib.hid kD, Lib.hid kF, P2, Q2, G3⟩
  case round =>
    clear kM kD kF P2 Q2 G3
    obtain ⟨k, hk, rfl, KM, KD, KF, PY, PZ, G3⟩ := hrel
    by_cases hlt : k < t4
    · have hlt' : (k : Int) < (t4 : Nat) := by omega
      have kM := KM.out
      have kD := KD.out
      have kF := KF.out
      obtain ⟨b2, o2, eb2, cx, lx⟩ := (HR.out.grew G3).at k hlt _ rfl
      obtain ⟨b1, o1, eb1, cy, ly⟩ := PY.out.at k hlt _ rfl
      obtain ⟨b3, o3, eb3, cz, lz⟩ := PZ.out.at k hlt _ rfl
      have hel := HEL.out k
      have her := HER.out k
      generalize xs.getD k 0 = x0 at *
      generalize ys.getD k 0 = x1 at *
      generalize zs.getD k 0 = x2 at *
      have HA := Lib.hid hel
      have HB := Lib.hid her
      clear hel her KM KD KF
      subst eb1
      subst eb2
      subst eb3
      have hwk : IntKind.u64.wrap (k : Int) = (k : Int) := IntWalk.u64_in _ (by omega)
      have hwa : IntKind.u64.wrap (2147483648 + (k : Int)) = 2147483648 + (k : Int) := IntWalk.u64_in _ (by omega)
      have hk0 : (0 : Int) ≤ (k : Int) := by omega
      have hI0 := Lib.hid (fun w => inside_b (2147483648 + (k : Int)) (tx + 10) 4 (by omega) (by omega) (by have := HTB.out; omega) (by have := HTB.out; omega) (by decide) (by decide) w)
      have hI1 := Lib.hid (fun w => inside_b (2147483648 + (k : Int)) (rx + 8) 6 (by omega) (by omega) (by have := HRB.out; omega) (by have := HRB.out; omega) (by decide) (by decide) w)
      have hI2 := Lib.hid (fun w => inside_b (2147483648 + (k : Int)) bu sz (by omega) (by omega) HBB.out.1 HBB.out.2 (by have := HSB.out; omega) (by have := HSB.out; omega) w)
      have hA1 : (x1 != x0) = false ∨ insB (2147483648 + (k : Int)) (tx + 10) 4 = true := by
        by_cases h : x1 = x0
        · left; simpa using h
        · right; exact HA.out h
      have hA2 : (x2 != x0) = false ∨ (fl % 2 == 0) = false ∧ (insB (2147483648 + (k : Int)) (rx + 8) 6 = true ∨ insB (2147483648 + (k : Int)) bu sz = true) := by
        by_cases h : x2 = x0
        · left; simpa using h
        · right; obtain ⟨u1, u2⟩ := HB.out h; exact ⟨by simpa using u1, u2⟩
      clear HA HB
      generalize insB (2147483648 + (k : Int)) (tx + 10) 4 = i0 at *
      generalize insB (2147483648 + (k : Int)) (rx + 8) 6 = i1 at *
      generalize insB (2147483648 + (k : Int)) bu sz = i2 at *
      have y0 := kM.cell 0
      go_upto_region 15 with fail
      clear y0
      have hfl := hmf
      cases hd1 : (x1 != x0)
      · have hD1 := hd1
        clear hA1 hD1
        have HA2 := Lib.hid hA2
        clear hA2
        have z0 := fun z : Over wr => kM.overCell 0 (.slice (some ⟨b2, o2, none⟩) t4 rc) rfl z
        have z1 := fun z : Over wr => kD.overCell 0 (.slice (some ⟨b1, o1, none⟩) t4 s5) rfl z
        have z2 := fun z : Over wr => Over.cell lx cx z
        have z3 := fun z : Over wr => Over.cell ly cy z
        refine region_over (by kernel_rfl) (by kernel_rfl) ?_
        repeat (first | go_big_quiet_step ((first | (go_at_call 29; with_reducible exact over_same (hI0.out _)))) | quiet_step ((first | (go_at_call 29; with_reducible exact over_same (hI0.out _)))))
        refine wpQuiet_nil ?_
        intro z
        have gz := z.g
        replace cx := Over.cell lx cx z
        replace cz := Over.cell lz cz z
        replace lx := Nat.lt_of_lt_of_le lx gz.size
        replace lz := Nat.lt_of_lt_of_le lz gz.size
        replace kM := kM.grew gz
        replace kD := kD.grew gz
        replace kF := kF.grew gz
        replace PY := Lib.hid (PY.out.grew gz)
        replace PZ := Lib.hid (PZ.out.grew gz)
        replace G3 := G3.trans gz
        clear z0 z1 z2 z3 cy ly gz
        generalize z.w = wq at *
        go_upto_region 17 with fail
        have hA2 := HA2.out
        clear HA2
        cases hd2 : (x2 != x0)
        · clear hA2
          as_aux_lemma =>
            have z0 := fun z : Over wq => kM.overCell 0 (.slice (some ⟨b2, o2, none⟩) t4 rc) rfl z
            have z1 := fun z : Over wq => kF.overCell 0 (.slice (some ⟨b3, o3, none⟩) t4 t5) rfl z
            have z2 := fun z : Over wq => Over.cell lx cx z
            have z3 := fun z : Over wq => Over.cell lz cz z
            refine region_over (by kernel_rfl) (by kernel_rfl) ?_
            repeat (first | go_big_quiet_step ((first | (go_at_call 29; with_reducible exact over_same (hI1.out _)) | (go_at_call 29; with_reducible exact over_same (hI2.out _)))) | quiet_step ((first | (go_at_call 29; with_reducible exact over_same (hI1.out _)) | (go_at_call 29; with_reducible exact over_same (hI2.out _)))))
            refine wpQuiet_nil ?_
            intro z
            have gz := z.g
            replace kM := kM.grew gz
            replace kD := kD.grew gz
            replace kF := kF.grew gz
            replace PY := Lib.hid (PY.out.grew gz)
            replace PZ := Lib.hid (PZ.out.grew gz)
            replace G3 := G3.trans gz
            clear z0 z1 z2 z3 cx cz lx lz gz
            generalize z.w = wq2 at *
            go_wp2_with fail
            have hwk2 : wrap64 ((k : Int) + 1) = (k : Int) + 1 := within_wrap hlt h1
            go_roundw
            case rel => exact ⟨k + 1, hlt, congrArg (Value.int .i64) (by first | rfl | exact hwk2), Lib.hid kM, Lib.hid kD, Lib.hid kF, PY, PZ, G3⟩
            case measure => first | exact within_meas hlt hwk2 | exact within_meas2 hlt
        · obtain ⟨hf0, hor⟩ : (fl % 2 == 0) = false ∧ (i1 = true ∨ i2 = true) := by rw [hd2] at hA2; simpa using hA2
          clear hA2
          cases i1
          · obtain rfl : i2 = true := by simpa using hor
            clear hor
            as_aux_lemma =>
              have z0 := fun z : Over wq => kM.overCell 0 (.slice (some ⟨b2, o2, none⟩) t4 rc) rfl z
              have z1 := fun z : Over wq => kF.overCell 0 (.slice (some ⟨b3, o3, none⟩) t4 t5) rfl z
              have z2 := fun z : Over wq => Over.cell lx cx z
              have z3 := fun z : Over wq => Over.cell lz cz z
              refine region_over (by kernel_rfl) (by kernel_rfl) ?_
              repeat (first | go_big_quiet_step ((first | (go_at_call 29; with_reducible exact over_same (hI1.out _)) | (go_at_call 29; with_reducible exact over_same (hI2.out _)))) | quiet_step ((first | (go_at_call 29; with_reducible exact over_same (hI1.out _)) | (go_at_call 29; with_reducible exact over_same (hI2.out _)))))
              refine wpQuiet_nil ?_
              intro z
              have gz := z.g
              replace kM := kM.grew gz
              replace kD := kD.grew gz
              replace kF := kF.grew gz
              replace PY := Lib.hid (PY.out.grew gz)
              replace PZ := Lib.hid (PZ.out.grew gz)
              replace G3 := G3.trans gz
              clear z0 z1 z2 z3 cx cz lx lz gz
              generalize z.w = wq2 at *
              go_wp2_with fail
              have hwk2 : wrap64 ((k : Int) + 1) = (k : Int) + 1 := within_wrap hlt h1
              go_roundw
              case rel => exact ⟨k + 1, hlt, congrArg (Value.int .i64) (by first | rfl | exact hwk2), Lib.hid kM, Lib.hid kD, Lib.hid kF, PY, PZ, G3⟩
              case measure => first | exact within_meas hlt hwk2 | exact within_meas2 hlt
          · clear hor
            as_aux_lemma =>
              have z0 := fun z : Over wq => kM.overCell 0 (.slice (some ⟨b2, o2, none⟩) t4 rc) rfl z
              have z1 := fun z : Over wq => kF.overCell 0 (.slice (some ⟨b3, o3, none⟩) t4 t5) rfl z
              have z2 := fun z : Over wq => Over.cell lx cx z
              have z3 := fun z : Over wq => Over.cell lz cz z
              refine region_over (by kernel_rfl) (by kernel_rfl) ?_
              repeat (first | go_big_quiet_step ((first | (go_at_call 29; with_reducible exact over_same (hI1.out _)) | (go_at_call 29; with_reducible exact over_same (hI2.out _)))) | quiet_step ((first | (go_at_call 29; with_reducible exact over_same (hI1.out _)) | (go_at_call 29; with_reducible exact over_same (hI2.out _)))))
              refine wpQuiet_nil ?_
              intro z
              have gz := z.g
              replace kM := kM.grew gz
              replace kD := kD.grew gz
              replace kF := kF.grew gz
              replace PY := Lib.hid (PY.out.grew gz)
              replace PZ := Lib.hid (PZ.out.grew gz)
              replace G3 := G3.trans gz
              clear z0 z1 z2 z3 cx cz lx lz gz
              generalize z.w = wq2 at *
              go_wp2_with fail
              have hwk2 : wrap64 ((k : Int) + 1) = (k : Int) + 1 := within_wrap hlt h1
              go_roundw
              case rel => exact ⟨k + 1, hlt, congrArg (Value.int .i64) (by first | rfl | exact hwk2), Lib.hid kM, Lib.hid kD, Lib.hid kF, PY, PZ, G3⟩
              case measure => first | exact within_meas hlt hwk2 | exact within_meas2 hlt
      · have hD1 := hd1
        obtain rfl : i0 = true := by rw [hd1] at hA1; simpa using hA1
        clear hA1 hD1
        have HA2 := Lib.hid hA2
        clear hA2
        have z0 := fun z : Over wr => kM.overCell 0 (.slice (some ⟨b2, o2, none⟩) t4 rc) rfl z
        have z1 := fun z : Over wr => kD.overCell 0 (.slice (some ⟨b1, o1, none⟩) t4 s5) rfl z
        have z2 := fun z : Over wr => Over.cell lx cx z
        have z3 := fun z : Over wr => Over.cell ly cy z
        refine region_over (by kernel_rfl) (by kernel_rfl) ?_
        repeat (first | go_big_quiet_step ((first | (go_at_call 29; with_reducible exact over_same (hI0.out _)))) | quiet_step ((first | (go_at_call 29; with_reducible exact over_same (hI0.out _)))))
        refine wpQuiet_nil ?_
        intro z
        have gz := z.g
        replace cx := Over.cell lx cx z
        replace cz := Over.cell lz cz z
        replace lx := Nat.lt_of_lt_of_le lx gz.size
        replace lz := Nat.lt_of_lt_of_le lz gz.size
        replace kM := kM.grew gz
        replace kD := kD.grew gz
        replace kF := kF.grew gz
        replace PY := Lib.hid (PY.out.grew gz)
        replace PZ := Lib.hid (PZ.out.grew gz)
        replace G3 := G3.trans gz
        clear z0 z1 z2 z3 cy ly gz
        generalize z.w = wq at *
        go_upto_region 17 with fail
        have hA2 := HA2.out
        clear HA2
        cases hd2 : (x2 != x0)
        · clear hA2
          as_aux_lemma =>
            have z0 := fun z : Over wq => kM.overCell 0 (.slice (some ⟨b2, o2, none⟩) t4 rc) rfl z
            have z1 := fun z : Over wq => kF.overCell 0 (.slice (some ⟨b3, o3, none⟩) t4 t5) rfl z
            have z2 := fun z : Over wq => Over.cell lx cx z
            have z3 := fun z : Over wq => Over.cell lz cz z
            refine region_over (by kernel_rfl) (by kernel_rfl) ?_
            repeat (first | go_big_quiet_step ((first | (go_at_call 29; with_reducible exact over_same (hI1.out _)) | (go_at_call 29; with_reducible exact over_same (hI2.out _)))) | quiet_step ((first | (go_at_call 29; with_reducible exact over_same (hI1.out _)) | (go_at_call 29; with_reducible exact over_same (hI2.out _)))))
            refine wpQuiet_nil ?_
            intro z
            have gz := z.g
            replace kM := kM.grew gz
            replace kD := kD.grew gz
            replace kF := kF.grew gz
            replace PY := Lib.hid (PY.out.grew gz)
            replace PZ := Lib.hid (PZ.out.grew gz)
            replace G3 := G3.trans gz
            clear z0 z1 z2 z3 cx cz lx lz gz
            generalize z.w = wq2 at *
            go_wp2_with fail
            have hwk2 : wrap64 ((k : Int) + 1) = (k : Int) + 1 := within_wrap hlt h1
            go_roundw
            case rel => exact ⟨k + 1, hlt, congrArg (Value.int .i64) (by first | rfl | exact hwk2), Lib.hid kM, Lib.hid kD, Lib.hid kF, PY, PZ, G3⟩
            case measure => first | exact within_meas hlt hwk2 | exact within_meas2 hlt
        · obtain ⟨hf0, hor⟩ : (fl % 2 == 0) = false ∧ (i1 = true ∨ i2 = true) := by rw [hd2] at hA2; simpa using hA2
          clear hA2
          cases i1
          · obtain rfl : i2 = true := by simpa using hor
            clear hor
            as_aux_lemma =>
              have z0 := fun z : Over wq => kM.overCell 0 (.slice (some ⟨b2, o2, none⟩) t4 rc) rfl z
              have z1 := fun z : Over wq => kF.overCell 0 (.slice (some ⟨b3, o3, none⟩) t4 t5) rfl z
              have z2 := fun z : Over wq => Over.cell lx cx z
              have z3 := fun z : Over wq => Over.cell lz cz z
              refine region_over (by kernel_rfl) (by kernel_rfl) ?_
              repeat (first | go_big_quiet_step ((first | (go_at_call 29; with_reducible exact over_same (hI1.out _)) | (go_at_call 29; with_reducible exact over_same (hI2.out _)))) | quiet_step ((first | (go_at_call 29; with_reducible exact over_same (hI1.out _)) | (go_at_call 29; with_reducible exact over_same (hI2.out _)))))
              refine wpQuiet_nil ?_
              intro z
              have gz := z.g
              replace kM := kM.grew gz
              replace kD := kD.grew gz
              replace kF := kF.grew gz
              replace PY := Lib.hid (PY.out.grew gz)
              replace PZ := Lib.hid (PZ.out.grew gz)
              replace G3 := G3.trans gz
              clear z0 z1 z2 z3 cx cz lx lz gz
              generalize z.w = wq2 at *
              go_wp2_with fail
              have hwk2 : wrap64 ((k : Int) + 1) = (k : Int) + 1 := within_wrap hlt h1
              go_roundw
              case rel => exact ⟨k + 1, hlt, congrArg (Value.int .i64) (by first | rfl | exact hwk2), Lib.hid kM, Lib.hid kD, Lib.hid kF, PY, PZ, G3⟩
              case measure => first | exact within_meas hlt hwk2 | exact within_meas2 hlt
          · clear hor
            as_aux_lemma =>
              have z0 := fun z : Over wq => kM.overCell 0 (.slice (some ⟨b2, o2, none⟩) t4 rc) rfl z
              have z1 := fun z : Over wq => kF.overCell 0 (.slice (some ⟨b3, o3, none⟩) t4 t5) rfl z
              have z2 := fun z : Over wq => Over.cell lx cx z
              have z3 := fun z : Over wq => Over.cell lz cz z
              refine region_over (by kernel_rfl) (by kernel_rfl) ?_
              repeat (first | go_big_quiet_step ((first | (go_at_call 29; with_reducible exact over_same (hI1.out _)) | (go_at_call 29; with_reducible exact over_same (hI2.out _)))) | quiet_step ((first | (go_at_call 29; with_reducible exact over_same (hI1.out _)) | (go_at_call 29; with_reducible exact over_same (hI2.out _)))))
              refine wpQuiet_nil ?_
              intro z
              have gz := z.g
              replace kM := kM.grew gz
              replace kD := kD.grew gz
              replace kF := kF.grew gz
              replace PY := Lib.hid (PY.out.grew gz)
              replace PZ := Lib.hid (PZ.out.grew gz)
              replace G3 := G3.trans gz
              clear z0 z1 z2 z3 cx cz lx lz gz
              generalize z.w = wq2 at *
              go_wp2_with fail
              have hwk2 : wrap64 ((k : Int) + 1) = (k : Int) + 1 := within_wrap hlt h1
              go_roundw
              case rel => exact ⟨k + 1, hlt, congrArg (Value.int .i64) (by first | rfl | exact hwk2), Lib.hid kM, Lib.hid kD, Lib.hid kF, PY, PZ, G3⟩
              case measure => first | exact within_meas hlt hwk2 | exact within_meas2 hlt
    · obtain rfl : k = t4 := by omega
      have hnl : ¬ ((k : Int) < (k : Nat)) := by omega
      have y0 := KM.out.cell 0
      go_wp2_with fail
      refine (heads_c G3).mono ?_
      rintro e wh ⟨rfl, gh⟩
      go_wp2_with fail
      go_ret
      exact ⟨rfl, gh⟩
theorem walk (c : Nat → Int) (m : List Int) (na : Option Addr) (nk : Nat) (ra : Option Addr) (rn rc : Nat) (xs : List Int) (fv : Value) (fs : List Int) (W : World) (hN : Buf W (.slice na m.length nk) m) (hmo : MacOf c m) (_hfit : m.length ≤ 140737488355328) (hR : Buf W (.slice ra rn rc) xs) (hF : Buf W fv fs) :
    Calls Try.prog 8 #[ncV c (.slice na m.length nk), .agg #[.slice ra rn rc], fv] W fun e w' => e = .returned (.bool true) ∧ Below W.heap.size W w' := by
  obtain ⟨fa, fm, rfl, _, _⟩ := hF.shape
  cases hb : (decide ((70000 : Int) < (rn : Nat)) || decide ((3000 : Int) < (fs.length : Nat)) || !chkB c m.length)
  · simp only [Bool.or_eq_false_iff, decide_eq_false_iff_not, Bool.not_eq_false'] at hb
    obtain ⟨⟨h1, h2⟩, h3⟩ := hb
    obtain ⟨hc, hi⟩ := chk_ok hmo hN.ok h3
    have h6 := hi.1
    rw [h6] at hN ⊢
    exact walk_near c m na nk ra rn rc xs fa fs.length fm fs W hN h6 hmo hc hR hF h1 h2
  · exact walk_far c m.length na nk ra rn rc fa fs.length fm W _ _ _ rfl rfl rfl hb
set_option maxRecDepth 100000 in
theorem lifted (os : Os) (started : os.Started) (H : Type) (enc : TypeId × Value → H) :
    ReturnsInHanded {} Try.checked os 8 .any (Rows.nicWithinSpec.pre6 enc Try.prog Try.f8 Rows.nicWithinRow.domain false) (Rows.nicWithinSpec.post enc Try.prog Try.f8 false true false false) := by
  refine returnsInHanded_of_change_sized (C := Try.checked) own started (by kernel_rfl) Try.func8
    (ChangeSpec.witness6 (enc := enc) (C := Try.checked) false ⟨#[], #[.agg #[.int .i64 0, .int .i64 0, .int .i64 0, .int .u64 0, .int .i64 0, .int .i64 0, .int .i64 0, .int .u64 0, .int .i64 0, .int .i64 0, .int .i64 0, .int .i64 0, .int .i64 0, .slice none 0 0], .agg #[.slice none 0 0], .slice none 0 0], []⟩ 8 (by kernel_rfl) (by kernel_rfl) (by kernel_rfl) (by kernel_rfl)) ?_
  intro W base args ds gs before hval0 hW _ hz0 _
  have hval : ∀ (j : Nat) t v, Try.f8.params[j]? = some t → args[j]? = some v → Value.okWide Try.prog W .any base t v := hval0
  have hW' := hW
  obtain ⟨p, q, hA0, hV, rfl, hfz, hnd⟩ := hW
  have hA : DataW.TrodAll enc Try.prog W 0 (fun _ => true) true Try.f8.params.toList args.toList ds p := hA0
  rw [Try.params8] at hA hval
  obtain ⟨v0, vs0, d0, ds0, p0, q0, hargs, rfl, rfl, h0, r'0⟩ := trodAll_cons hA
  obtain ⟨v1, vs1, d1, ds1, p1, q1, rfl, rfl, rfl, h1, r'1⟩ := trodAll_cons r'0
  obtain ⟨v2, vs2, d2, ds2, p2, q2, rfl, rfl, rfl, h2, r'2⟩ := trodAll_cons r'1
  obtain ⟨rfl, rfl, rfl⟩ := trodAll_nil r'2
  obtain rfl : args = #[v0, v1, v2] := by cases args; simp_all
  obtain ⟨c0, m0, na0, nk0, rfl, k0, mo0, f0⟩ := open_nic (hval 0 25 v0 rfl rfl) h0
  have fits0 := f0 (fun m hm => by simpa using List.all_eq_true.1 hz0 _ (DataW.weights_mem_each (j := 0) (t := 25) rfl rfl m hm))
  obtain ⟨a1, n1, c1, x1, rfl, k1⟩ := open_ram (hval 1 27 v1 rfl rfl) h1
  obtain ⟨x2, k2⟩ := open_buf Try.underlying23 Try.underlying5 (by kernel_rfl) (hval 2 23 v2 rfl rfl) h2
  refine (walk c0 m0 na0 nk0 a1 n1 c1 x1 v2 x2 W k0 mo0 fits0 k1 k2).mono fun e W' ⟨he, hb⟩ => ?_
  subst he
  exact ⟨_, rfl, law_post hW' rfl rfl laid (by kernel_rfl) rfl Try.underlying4 hb⟩

theorem over : Rows.nicWithinRow.holds Try.pinned (OpenSpec.ofChange Rows.nicWithinSpec) :=
  OpenClaim.holds_of_wide 8 Try.f8 rfl rfl rfl rfl rfl rfl rfl ⟨rfl, rfl, rfl, rfl, rfl⟩ rfl rfl rfl rfl rfl (by kernel_rfl) Try.func8 (by kernel_rfl)
    (of_decide_eq_true (by kernel_rfl)) (by unfold Func.isWrapper; first | (rw [if_pos (by decide +kernel)]; kernel_rfl) | (rw [if_neg (by decide +kernel)]; exact ⟨rfl, rfl⟩))
    (fun os started H enc _ => lifted os started H enc)

theorem proved : Rows.NicWithinSaid := over
#print axioms proved
end Go.Proofs.Ythmaaellpfoaiaa.nicWithin
