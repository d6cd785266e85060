/-
  The statement that a controller sends no more frames in a row than its ring has descriptors, and then stands at its tail, or at a descriptor that is not its own, or is off. For every controller and memory. Conditions: none.
-/
import Derived.Test.YthmaaellpfoaiaaRows
import Derived.Test.YthmaaellpfoaiaaNcZ
import Derived.Test.YthmaaellpfoaiaaLaw
import Derived.Deep.QuietTactic
import Derived.BigQuiet
import Derived.Deep.DeepCutAuto
import Derived.BigFrame
import Derived.Deep.RegionHeld3
set_option maxRecDepth 4000
set_option linter.unusedVariables false
set_option linter.unusedSimpArgs false
namespace Go.Proofs.Ythmaaellpfoaiaa.nicDrains
open Go.ChangeShapes Go.WideShapes Go.ChangeAt Go.RowKit Go.Proofs.Ythmaaellpfoaiaa

set_option maxHeartbeats 2000000 in
theorem walk_far (c : Nat → Int) (n6 : Nat) (na : Option Addr) (nk : Nat) (ra : Option Addr) (rn rc : Nat) (W : World) (b1 b3 : Bool) (h1 : decide ((20000 : Int) < (rn : Nat)) = b1) (h3 : chkB c n6 = b3) (hb : (b1 || !b3) = true) :
    Calls Try.prog 3 #[ncV c (.slice na n6 nk), .agg #[.slice ra rn rc]] W fun e w' => e = .returned (.bool true) ∧ Below W.heap.size W w' := by
  have hC := check_c c na n6 nk
  rw [h3] at hC
  have HC := Lib.hid hC
  clear hC h3
  cases b1 <;> cases b3
  case false.true => simp at hb
  all_goals
    clear hb
    go_enter Try.func3, Try.ntmps3
    go_upto_region 1 with fail
    have kN : Blk ((W.alloc (.cells (ncA c (.slice na n6 nk)) 25)).alloc (.cells #[.slice ra rn rc] 27)) W.heap.size (ncA c (.slice na n6 nk)) 25 := (Blk.new W (ncA c (.slice na n6 nk)) 25 _ rfl).alloc (.cells #[.slice ra rn rc] 27)
    have kM : Blk ((W.alloc (.cells (ncA c (.slice na n6 nk)) 25)).alloc (.cells #[.slice ra rn rc] 27)) (W.heap.size + 1) #[.slice ra rn rc] 27 := Blk.new (W.alloc (.cells (ncA c (.slice na n6 nk)) 25)) #[.slice ra rn rc] 27 _ (by simp)
    have g0 : Grew W ((W.alloc (.cells (ncA c (.slice na n6 nk)) 25)).alloc (.cells #[.slice ra rn rc] 27)) := ((Grew.refl W).alloc (.cells (ncA c (.slice na n6 nk)) 25)).alloc (.cells #[.slice ra rn rc] 27)
    generalize ((W.alloc (.cells (ncA c (.slice na n6 nk)) 25)).alloc (.cells #[.slice ra rn rc] 27)) = w0 at *
    have lN : W.heap.size ≤ W.heap.size := by omega
    have lM : W.heap.size ≤ (W.heap.size + 1) := by omega
    have nNM : W.heap.size ≠ (W.heap.size + 1) := by omega
    have nMN : (W.heap.size + 1) ≠ W.heap.size := by omega
    generalize (W.heap.size + 1) = M at *
    generalize hZ : W.heap.size = N at *
    have HZ := Lib.hid hZ
    clear hZ
    have LN : Hid (W.heap.size ≤ N) := Lib.hid (by rw [HZ.out]; exact lN)
    have LM : Hid (W.heap.size ≤ M) := Lib.hid (by rw [HZ.out]; exact lM)
    have y0 := kM.cell 0
    try
      go_wp2_with (refine lw_nc (by rfl) (.tmp 2) rfl _ rfl kN (by rfl) ?_)
      refine (HC.out _).mono ?_
      rintro e w1 ⟨rfl, g1⟩
    go_wp2_with fail
    first
      | refine (heads_c (g0.trans g1)).mono ?_
      | refine (heads_c g0).mono ?_
    rintro e wh ⟨rfl, gh⟩
    go_wp2_with fail
    go_ret
    exact ⟨rfl, gh⟩
set_option maxRecDepth 100000 in
set_option maxHeartbeats 8000000 in
theorem walk_near (c : Nat → Int) (m : List Int) (na : Option Addr) (nk : Nat) (ra : Option Addr) (rn rc : Nat) (xs : List Int) (W : World) (hN : Buf W (.slice na 6 nk) m) (h6 : m.length = 6) (hmo : MacOf c m) (hc : ROk c) (hR : Buf W (.slice ra rn rc) xs) (h1 : ¬ ((20000 : Int) < (rn : Nat))) :
    Calls Try.prog 3 #[ncV c (.slice na 6 nk), .agg #[.slice ra rn rc]] W fun e w' => e = .returned (.bool true) ∧ Below W.heap.size W w' := by
  have hC := check_c c na 6 nk
  rw [ok_chk hc] at hC
  have HC := Lib.hid hC
  obtain ⟨hrn, q0⟩ := hR.lenEq
  have HXL : Hid (xs.length = rn) := Lib.hid hrn.symm
  have HL : Hid (xs.length ≤ 20000) := Lib.hid (by omega)
  have HC0 := Lib.hid hc
  have HMO := Lib.hid hmo
  have H6 := Lib.hid h6
  have hc4 := Lib.hid hc.r4
  have HN := Lib.hid hN
  have HR := Lib.hid hR
  clear hC q0 hN hR hc hmo h6 hrn
  go_enter Try.func3, Try.ntmps3
  go_upto_region 1 with fail
  have kN : Blk ((W.alloc (.cells (ncA c (.slice na 6 nk)) 25)).alloc (.cells #[.slice ra rn rc] 27)) W.heap.size (ncA c (.slice na 6 nk)) 25 := (Blk.new W (ncA c (.slice na 6 nk)) 25 _ rfl).alloc (.cells #[.slice ra rn rc] 27)
  have kM : Blk ((W.alloc (.cells (ncA c (.slice na 6 nk)) 25)).alloc (.cells #[.slice ra rn rc] 27)) (W.heap.size + 1) #[.slice ra rn rc] 27 := Blk.new (W.alloc (.cells (ncA c (.slice na 6 nk)) 25)) #[.slice ra rn rc] 27 _ (by simp)
  have g0 : Grew W ((W.alloc (.cells (ncA c (.slice na 6 nk)) 25)).alloc (.cells #[.slice ra rn rc] 27)) := ((Grew.refl W).alloc (.cells (ncA c (.slice na 6 nk)) 25)).alloc (.cells #[.slice ra rn rc] 27)
  generalize ((W.alloc (.cells (ncA c (.slice na 6 nk)) 25)).alloc (.cells #[.slice ra rn rc] 27)) = w0 at *
  have lN : W.heap.size ≤ W.heap.size := by omega
  have lM : W.heap.size ≤ (W.heap.size + 1) := by omega
  have nNM : W.heap.size ≠ (W.heap.size + 1) := by omega
  have nMN : (W.heap.size + 1) ≠ W.heap.size := by omega
  generalize (W.heap.size + 1) = M at *
  generalize hZ : W.heap.size = N at *
  have HZ := Lib.hid hZ
  clear hZ
  have LN : Hid (W.heap.size ≤ N) := Lib.hid (by rw [HZ.out]; exact lN)
  have LM : Hid (W.heap.size ≤ M) := Lib.hid (by rw [HZ.out]; exact lM)
  have y0 := kM.cell 0
  go_wp2_with (refine lw_nc (by rfl) (.tmp 2) rfl _ rfl kN (by rfl) ?_)
  refine (HC.out _).mono ?_
  rintro e w1 ⟨rfl, g1⟩
  have kN1 := kN.grew g1
  have kM1 := kM.grew g1
  have gc := (g0.trans g1).drew1
  clear y0 g0 g1 kN kM
  go_upto_region 3 with fail
  refine wp_region_held_drew (S := fun w' => Blk w' N (ncA c (.slice na 6 nk)) 25 ∧ Blk w' M #[.slice ra rn rc] 27) (by kernel_rfl) (⟨kN1.drew, kM1.drew⟩) (fun hHeld => ?_)
  replace hHeld : Blk w1.drew N (ncA c (.slice na 6 nk)) 25 ∧ Blk w1.drew M #[.slice ra rn rc] 27 := hHeld
  generalize w1.drew = wq0 at *
  refine wpAnyH_take (i := 0) (v := (ncV c (.slice na 6 nk))) rfl (by kernel_rfl) (by kernel_rfl) (by kernel_rfl) (fun _ _ _ h => h) (yl_nc rfl (by rfl) (by rfl) fun _ h => h.1) hHeld ?_
  try simp only [List.getElem_toArray, List.getElem_cons_succ, List.getElem_cons_zero, Act.put, List.setIfInBounds_toArray, List.set_cons_zero, List.set_cons_succ]
  refine wpAnyH_take (i := 1) (v := (.agg #[.slice ra rn rc])) rfl (by kernel_rfl) (by kernel_rfl) (by kernel_rfl) (fun _ _ _ h => h) (yl_rm rfl (by rfl) (by rfl) fun _ h => h.2) hHeld ?_
  try simp only [List.getElem_toArray, List.getElem_cons_succ, List.getElem_cons_zero, Act.put, List.setIfInBounds_toArray, List.set_cons_zero, List.set_cons_succ]
  refine wpAnyH_ready (rs := [2, 3]) (by kernel_rfl) (by simp) ?_
  refine AllReadyH.cons rfl (fun K hK => ?_) (AllReadyH.cons rfl (fun K hK => ?_) AllReadyH.nil)
  · go_simp
    have szA := hHeld.2.lt
    have szNA := hHeld.1.lt
    refine hK.out _ _ (⟨hHeld.1.alloc _, hHeld.2.alloc _⟩) (fun hHeld => ?_)
    clear hK K
    have kA : Blk (wq0.alloc (.cells zeroN 25)) wq0.heap.size zeroN 25 := Blk.new _ _ _ _ rfl
    replace gc := gc.alloc (.cells zeroN 25)
    generalize (wq0.alloc (.cells zeroN 25)) = wa at *
    generalize wq0.heap.size = A at *
    try simp only [List.getElem_toArray, List.getElem_cons_succ, List.getElem_cons_zero, Act.put, List.setIfInBounds_toArray, List.set_cons_zero, List.set_cons_succ]
    refine wpAnyH_ready (rs := [3]) (by kernel_rfl) (by simp) ?_
    refine AllReadyH.cons rfl (fun K hK => ?_) AllReadyH.nil
    go_simp
    have szX := hHeld.2.lt
    have szNX := hHeld.1.lt
    refine hK.out _ _ (⟨hHeld.1.alloc _, hHeld.2.alloc _⟩) (fun hHeld => ?_)
    clear hK K
    have kX : Blk (wa.alloc (.cells #[.slice none 0 0] 27)) wa.heap.size #[.slice none 0 0] 27 := Blk.new _ _ _ _ rfl
    have nAX : A ≠ wa.heap.size := by have := kA.lt; omega
    replace kA := kA.alloc (.cells #[.slice none 0 0] 27)
    replace gc := gc.alloc (.cells #[.slice none 0 0] 27)
    generalize (wa.alloc (.cells #[.slice none 0 0] 27)) = wx at *
    generalize wa.heap.size = X at *
    have nXA' : X ≠ A := by omega
    have nAX' : A ≠ X := by omega
    have WA : W.heap.size ≤ A := Nat.le_trans LM.out (by omega)
    have WX : W.heap.size ≤ X := Nat.le_trans LM.out (by omega)
    try simp only [List.getElem_toArray, List.getElem_cons_succ, List.getElem_cons_zero, Act.put, List.setIfInBounds_toArray, List.set_cons_zero, List.set_cons_succ]
    refine wpAnyH_ready (rs := [4]) (by kernel_rfl) (by simp) ?_
    refine AllReadyH.cons rfl (fun K hK => ?_) AllReadyH.nil
    refine step_st_nc rfl (.tmp 5) (.tmp 24) rfl rfl c kA rfl (by rfl) (by rfl) ⟨_, _, _, rfl⟩ ?_
    intro wd kA2 od
    refine hK.out _ _ (⟨hHeld.1.only od (by omega), hHeld.2.only od (by omega)⟩) (fun hHeld => ?_)
    clear hK K
    replace kX := kX.only od nXA'
    replace gc := od.grew gc WA
    clear kA od
    try simp only [List.getElem_toArray, List.getElem_cons_succ, List.getElem_cons_zero, Act.put, List.setIfInBounds_toArray, List.set_cons_zero, List.set_cons_succ]
    refine wpAnyH_ready (rs := [5]) (by kernel_rfl) (by simp) ?_
    refine AllReadyH.cons rfl (fun K hK => ?_) AllReadyH.nil
    refine step_st_rm rfl (.tmp 6) (.tmp 25) rfl rfl kX rfl (by rfl) (by rfl) ⟨_, _, _, rfl⟩ ?_
    intro we kX2 oe
    refine hK.out _ _ (⟨hHeld.1.only oe (by omega), hHeld.2.only oe (by omega)⟩) (fun hHeld => ?_)
    clear hK K
    have kA3 := kA2.only oe nAX'
    replace gc := oe.grew gc WX
    clear kA2 kX oe
    try simp only [List.getElem_toArray, List.getElem_cons_succ, List.getElem_cons_zero, Act.put, List.setIfInBounds_toArray, List.set_cons_zero, List.set_cons_succ]
    refine wpAnyH_done (by kernel_rfl) ?_ _
    try simp only [List.getElem_toArray, List.getElem_cons_succ, List.getElem_cons_zero, Act.put, List.setIfInBounds_toArray, List.set_cons_zero, List.set_cons_succ]
    have kNe := hHeld.1
    have HNA : Hid (N ≠ A) := Lib.hid (by omega)
    have HNX : Hid (N ≠ X) := Lib.hid (by omega)
    have HAX := Lib.hid nAX'
    have HXA := Lib.hid nXA'
    have HWA := Lib.hid WA
    have HWX := Lib.hid WX
    clear hHeld nAX' nXA' WA WX szA szX szNA szNX
    try clear nAX
    try clear nXA
    clear lN lM nNM nMN
    go_upto_region 5 with fail
    go_loopw [7] (fun i wr => ∃ k : Nat, (k : Int) ≤ c 4 ∧ i = .int .i64 k ∧ ∃ (p1 : Option Addr) (p2 : Nat) (p3 : Option Addr) (p4 : Nat), Hid (Blk wr A (ncA (sendK c xs k).c (.slice p1 6 p2)) 25) ∧ Hid (Blk wr X #[.slice p3 rn p4] 27) ∧ Hid (Blk wr N (ncA c (.slice na 6 nk)) 25) ∧ Hid (Buf wr (.slice p1 6 p2) m) ∧ Hid (Buf wr (.slice p3 rn p4) (sendK c xs k).xs) ∧ Hid (∀ j, j < k → (sendK c xs (j + 1)).b = true) ∧ Grew W wr) (fun i _ => (c 4 + 1).toNat - (intOf i).toNat)
    case atStart => exact ⟨0, by have := hc4.out; omega, rfl, na, nk, ra, rc, Lib.hid kA3, Lib.hid kX2, Lib.hid kNe, Lib.hid (HN.out.grew gc), Lib.hid (HR.out.grew gc), Lib.hid (fun j hj => by omega), gc⟩
    case round =>
      clear kA3 kX2 kNe gc
      obtain ⟨k, hk, rfl, p1, p2, p3, p4, KA, KX, KN, PM, PX, PK, G3⟩ := hrel
      have hkk := sendK_many HC0.out xs k PK.out
      have hle : (k : Int) ≤ c 4 := by omega
      have hok := sendK_ok HC0.out xs k
      have hlen := sendK_len c xs k
      have hmk := sendK_mac HC0.out HMO.out xs k
      have hstop := sendR_stop (c := (sendK c xs k).c) PX.out.ok
      have hSe := Lib.hid (fun (w : World) (h : Buf w (.slice p1 m.length p2) m) (h2 : Buf w (.slice p3 rn p4) (sendK c xs k).xs) => Send_c hmk h h2 (by rw [hlen]; have := HL.out; omega) (by have := H6.out; omega))
      unfold sendS at hSe
      rw [H6.out, ok_chk hok] at hSe
      simp only [if_true] at hSe
      have hRd := Lib.hid (fun (w : World) (h2 : Buf w (.slice p3 rn p4) (sendK c xs k).xs) => refRead_c ((sendK c xs k).c 3 + 16 * (sendK c xs k).c 5 + 10) 1 (by have := hok.r3; have := hok.r5; omega) (by have := hok.r3; have := hok.r4; have := hok.r5; omega) (by decide) (by decide) w h2 (by rw [hlen]; have := HL.out; omega))
      have HRP := Lib.hid (readV_nn PX.out.ok ((sendK c xs k).c 3 + 16 * (sendK c xs k).c 5 + 10) 1)
      have hl2 := sendR_len (sendK c xs k).c (sendK c xs k).xs
      rw [hlen] at hl2
      have hnext : sendK c xs (k + 1) = sendR (sendK c xs k).c (sendK c xs k).xs := rfl
      have r3 := hok.r3
      have r4 := hok.r4
      have r5 := hok.r5
      have r0 := hok.r0
      have hkb := PK.out
      generalize hdd : (sendK c xs k).c = d at *
      generalize hys : (sendK c xs k).xs = ys at *
      generalize hsn : sendR d ys = sn at *
      have HNX2 := Lib.hid hnext
      have HST := Lib.hid hstop
      have HL2 := Lib.hid hl2
      have HKB := Lib.hid hkb
      have HK := Lib.hid hk
      have HKK := Lib.hid hkk
      clear hnext hstop hl2 hkb hdd hys hsn hmk hlen hok PK hk hkk
      have kA := KA.out
      have kX := KX.out
      have kN := KN.out
      clear KA KX KN
      have y4 : wr.cell? ⟨N, 4, none⟩ = some (.int .i64 (c 4)) := kN.cell 4
      go_upto_region 7 with fail
      clear y4
      go_wp2_with (first | (refine ld_nc rfl (.tmp 5) rfl _ rfl kA (by rfl) ?_) | (refine ld_rm rfl (.tmp 6) rfl _ rfl kX (by rfl) ?_))
      refine (hSe.out _ PM.out PX.out).mono ?_
      rintro e w2 ⟨s1, s2, s3, s4, s5, s6, s7, s8, rfl, P1, P2, P3, g2⟩
      have HE4 := Lib.hid (P2.out.lenEq.1)
      rw [HL2.out, HXL.out] at HE4
      obtain ⟨e4⟩ : PLift (s4 = rn) := ⟨HE4.out⟩
      subst e4
      replace kA := kA.grew g2
      replace kX := kX.grew g2
      replace kN := kN.grew g2
      replace PX := Lib.hid (PX.out.grew g2)
      replace G3 := G3.trans g2
      clear g2 P3 HE4 PM hSe
      go_upto_region 8 with (first | (refine al_nc rfl rfl ?_; intro wa kB0 gB) | (refine al_rm rfl rfl ?_; intro wc kD0 gD) | (refine st_nc rfl (.tmp 8) (.tmp 36) rfl rfl sn.c (kB0.grew gD) rfl (by rfl) (by rfl) ⟨_, _, _, rfl⟩ ?_; intro wd kB oB) | (refine st_rm rfl (.tmp 9) (.tmp 37) rfl rfl (kD0.only oB (by have := kB0.lt; omega)) rfl (by rfl) (by rfl) ⟨_, _, _, rfl⟩ ?_; intro we kD oD))
      have gbe : Grew w2 we := oD.grew (oB.grew (gB.trans gD) (Nat.le_refl _)) gB.size
      have kB := kB.only oD (by have := kB0.lt; omega)
      have lA := kA.lt
      have lX := kX.lt
      have lNN := kN.lt
      have lB := kB0.lt
      have nB : A ≠ w2.heap.size ∧ X ≠ w2.heap.size ∧ N ≠ w2.heap.size ∧ A ≠ wa.heap.size ∧ X ≠ wa.heap.size ∧ N ≠ wa.heap.size ∧ w2.heap.size ≠ wa.heap.size := ⟨by omega, by omega, by omega, by omega, by omega, by omega, by omega⟩
      replace kA := kA.grew gbe
      replace kX := kX.grew gbe
      replace kN := kN.grew gbe
      replace PX := Lib.hid (PX.out.grew gbe)
      replace P1 := Lib.hid (P1.out.grew gbe)
      replace P2 := Lib.hid (P2.out.grew gbe)
      replace G3 := G3.trans gbe
      clear gbe kB0 gB kD0 gD oB oD lA lX lNN lB
      generalize w2.heap.size = B at *
      generalize wa.heap.size = D at *
      have HNB := Lib.hid nB
      clear nB
      go_upto_region 8 with fail
      cases hb : sn.b
      · have hst := HST.out hb
        have q3 : IntKind.u64.wrap (d 5) = d 5 := IntWalk.u64_in _ (by omega)
        have q4 : IntKind.u64.wrap (16 * d 5) = 16 * d 5 := IntWalk.u64_in _ (by omega)
        have q5 : IntKind.u64.wrap (d 3 + 16 * d 5) = d 3 + 16 * d 5 := IntWalk.u64_in _ (by omega)
        have q6 : IntKind.u64.wrap (d 3 + 16 * d 5 + 10) = d 3 + 16 * d 5 + 10 := IntWalk.u64_in _ (by omega)
        have HST2 := Lib.hid hst
        clear hst HST
        have y3 : we.cell? ⟨A, 3, none⟩ = some (.int .u64 (d 3)) := kA.cell 3
        have y5 : we.cell? ⟨A, 5, none⟩ = some (.int .i64 (d 5)) := kA.cell 5
        go_upto_region 9 with fail
        go_wp2_with (refine ld_rm rfl (.tmp 6) rfl _ rfl kX (by rfl) ?_)
        refine (hRd.out _ PX.out).mono ?_
        rintro e w3 ⟨rfl, g3⟩
        replace kA := kA.grew g3
        replace G3 := G3.trans g3
        clear y3 y5 q3 q4 q5 q6 r3 r4 r5
        have z5 : w3.cell? ⟨A, 5, none⟩ = some (.int .i64 (d 5)) := kA.cell 5
        have z6 : w3.cell? ⟨A, 6, none⟩ = some (.int .i64 (d 6)) := kA.cell 6
        have z0 : w3.cell? ⟨A, 0, none⟩ = some (.int .i64 (d 0)) := kA.cell 0
        have e0 : (d 0).tmod 2 = d 0 % 2 := Int.tmod_eq_emod_of_nonneg r0.1
        have hst := HST2.out
        have eR : (readV ys (d 3 + 16 * d 5 + 10) 1).tmod 2 = readV ys (d 3 + 16 * d 5 + 10) 1 % 2 := Int.tmod_eq_emod_of_nonneg HRP.out
        rw [show sizeV 1 = true from rfl, Bool.true_and]
        generalize readV ys (d 3 + 16 * d 5 + 10) 1 = rv at *
        generalize insideV ys.length (d 3 + 16 * d 5 + 10) 1 = iv at *
        by_cases h56 : d 5 = d 6
        · have u1 : (d 5 == d 6) = true := by simpa using h56
          clear h56 hst
          go_wp2_with fail
          refine (heads_c G3).mono ?_
          rintro e wh ⟨rfl, gh⟩
          go_wp2_with fail
          go_ret
          exact ⟨rfl, gh⟩
        · have u1 : (d 5 == d 6) = false := by simpa using h56
          by_cases h0 : d 0 % 2 = 0
          · have u2 : (d 0 % 2 == 0) = true := by simpa using h0
            clear h56 h0 hst
            go_wp2_with fail
            refine (heads_c G3).mono ?_
            rintro e wh ⟨rfl, gh⟩
            go_wp2_with fail
            go_ret
            exact ⟨rfl, gh⟩
          · have u2 : (d 0 % 2 == 0) = false := by simpa using h0
            obtain ⟨hi, hr⟩ : iv = true ∧ rv % 2 = 0 := by rcases hst with h | h | h; exact absurd h h56; exact absurd h h0; exact h
            subst hi
            have u3 : (rv % 2 == 0) = true := by simpa using hr
            clear h56 h0 hst hr
            go_wp2_with fail
            refine (heads_c G3).mono ?_
            rintro e wh ⟨rfl, gh⟩
            go_wp2_with fail
            go_ret
            exact ⟨rfl, gh⟩
      · clear HST hRd r3 r4 r5 r0
        go_upto_region 11 with fail
        replace kA := kA.drew
        replace kX := kX.drew
        replace kN := kN.drew
        replace P1 := Lib.hid P1.out.drew
        replace P2 := Lib.hid P2.out.drew
        replace G3 := G3.drew1
        refine wp_region_held_drew (S := fun w' => Blk w' B (ncA sn.c (.slice s1 6 s2)) 25 ∧ Blk w' D #[.slice s3 s4 s5] 27) (by kernel_rfl) (⟨kB.drew, kD.drew⟩) (fun hHeld => ?_)
        replace hHeld : Blk we.drew B (ncA sn.c (.slice s1 6 s2)) 25 ∧ Blk we.drew D #[.slice s3 s4 s5] 27 := hHeld
        generalize we.drew = wk0 at *
        refine wpAnyH_take (i := 0) (v := (ncV sn.c (.slice s1 6 s2))) rfl (by kernel_rfl) (by kernel_rfl) (by kernel_rfl) (fun _ _ _ h => h) (yl_nc rfl (by rfl) (by rfl) fun _ h => h.1) hHeld ?_
        try simp only [List.getElem_toArray, List.getElem_cons_succ, List.getElem_cons_zero, Act.put, List.setIfInBounds_toArray, List.set_cons_zero, List.set_cons_succ]
        refine wpAnyH_take (i := 1) (v := (.agg #[.slice s3 s4 s5])) rfl (by kernel_rfl) (by kernel_rfl) (by kernel_rfl) (fun _ _ _ h => h) (yl_rm rfl (by rfl) (by rfl) fun _ h => h.2) hHeld ?_
        try simp only [List.getElem_toArray, List.getElem_cons_succ, List.getElem_cons_zero, Act.put, List.setIfInBounds_toArray, List.set_cons_zero, List.set_cons_succ]
        refine wpAnyH_ready (rs := [2]) (by kernel_rfl) (by simp) ?_
        refine AllReadyH.cons rfl (fun K hK => ?_) AllReadyH.nil
        refine step_st_nc rfl (.tmp 5) (.tmp 77) rfl rfl sn.c kA rfl (by rfl) (by rfl) ⟨_, _, _, rfl⟩ ?_
        intro wg kA2 og
        refine hK.out _ _ (⟨hHeld.1.only og (Ne.symm HNB.out.1), hHeld.2.only og (Ne.symm HNB.out.2.2.2.1)⟩) (fun hHeld => ?_)
        clear hK K
        have P1a := Lib.hid (P1.out.only og kA (nb_nc _ _ _ _))
        have P2a := Lib.hid (P2.out.only og kA (nb_nc _ _ _ _))
        replace kX := kX.only og HXA.out
        replace kN := kN.only og HNA.out
        replace G3 := og.grew G3 HWA.out
        clear kA og P1 P2
        try simp only [List.getElem_toArray, List.getElem_cons_succ, List.getElem_cons_zero, Act.put, List.setIfInBounds_toArray, List.set_cons_zero, List.set_cons_succ]
        refine wpAnyH_ready (rs := [3]) (by kernel_rfl) (by simp) ?_
        refine AllReadyH.cons rfl (fun K hK => ?_) AllReadyH.nil
        refine step_st_rm rfl (.tmp 6) (.tmp 78) rfl rfl kX rfl (by rfl) (by rfl) ⟨_, _, _, rfl⟩ ?_
        intro wi kX2 oi
        refine hK.out _ _ (⟨hHeld.1.only oi (Ne.symm HNB.out.2.1), hHeld.2.only oi (Ne.symm HNB.out.2.2.2.2.1)⟩) (fun hHeld => ?_)
        clear hK K
        have P1b := Lib.hid (P1a.out.only oi kX (nb_one _ (fun x h => by cases h)))
        have P2b := Lib.hid (P2a.out.only oi kX (nb_one _ (fun x h => by cases h)))
        replace kA2 := kA2.only oi HAX.out
        replace kN := kN.only oi HNX.out
        replace G3 := oi.grew G3 HWX.out
        clear kX oi P1a P2a hHeld
        try simp only [List.getElem_toArray, List.getElem_cons_succ, List.getElem_cons_zero, Act.put, List.setIfInBounds_toArray, List.set_cons_zero, List.set_cons_succ]
        refine wpAnyH_done (by kernel_rfl) ?_ _
        try simp only [List.getElem_toArray, List.getElem_cons_succ, List.getElem_cons_zero, Act.put, List.setIfInBounds_toArray, List.set_cons_zero, List.set_cons_succ]
        go_wp2_with fail
        have hkb : (k : Int) ≤ 64 := by have := HKK.out; have := hc4.out; omega
        have hwk : wrap64 ((k : Int) + 1) = (k : Int) + 1 := IntWalk.wrap64_in _ (by omega)
        go_roundw
        case rel => exact ⟨k + 1, by have := HKK.out; omega, congrArg (Value.int .i64) (by first | rfl | (rw [hwk]; omega) | omega), s1, s2, s3, s5, Lib.hid (by rw [HNX2.out]; exact kA2), Lib.hid kX2, Lib.hid kN, P1b, Lib.hid (by rw [HNX2.out]; exact P2b.out), Lib.hid (fun j hj => by rcases Nat.lt_succ_iff_lt_or_eq.1 hj with h | h; exact HKB.out j h; rw [h, HNX2.out]; exact hb), G3⟩
        case measure => exact drain_meas HKK.out hwk
  · go_simp
    have szX := hHeld.2.lt
    have szNX := hHeld.1.lt
    refine hK.out _ _ (⟨hHeld.1.alloc _, hHeld.2.alloc _⟩) (fun hHeld => ?_)
    clear hK K
    have kX : Blk (wq0.alloc (.cells #[.slice none 0 0] 27)) wq0.heap.size #[.slice none 0 0] 27 := Blk.new _ _ _ _ rfl
    replace gc := gc.alloc (.cells #[.slice none 0 0] 27)
    generalize (wq0.alloc (.cells #[.slice none 0 0] 27)) = wx at *
    generalize wq0.heap.size = X at *
    try simp only [List.getElem_toArray, List.getElem_cons_succ, List.getElem_cons_zero, Act.put, List.setIfInBounds_toArray, List.set_cons_zero, List.set_cons_succ]
    refine wpAnyH_ready (rs := [2]) (by kernel_rfl) (by simp) ?_
    refine AllReadyH.cons rfl (fun K hK => ?_) AllReadyH.nil
    go_simp
    have szA := hHeld.2.lt
    have szNA := hHeld.1.lt
    refine hK.out _ _ (⟨hHeld.1.alloc _, hHeld.2.alloc _⟩) (fun hHeld => ?_)
    clear hK K
    have kA : Blk (wx.alloc (.cells zeroN 25)) wx.heap.size zeroN 25 := Blk.new _ _ _ _ rfl
    have nXA : X ≠ wx.heap.size := by have := kX.lt; omega
    replace kX := kX.alloc (.cells zeroN 25)
    replace gc := gc.alloc (.cells zeroN 25)
    generalize (wx.alloc (.cells zeroN 25)) = wa at *
    generalize wx.heap.size = A at *
    have nXA' : X ≠ A := by omega
    have nAX' : A ≠ X := by omega
    have WA : W.heap.size ≤ A := Nat.le_trans LM.out (by omega)
    have WX : W.heap.size ≤ X := Nat.le_trans LM.out (by omega)
    try simp only [List.getElem_toArray, List.getElem_cons_succ, List.getElem_cons_zero, Act.put, List.setIfInBounds_toArray, List.set_cons_zero, List.set_cons_succ]
    refine wpAnyH_ready (rs := [4]) (by kernel_rfl) (by simp) ?_
    refine AllReadyH.cons rfl (fun K hK => ?_) AllReadyH.nil
    refine step_st_nc rfl (.tmp 5) (.tmp 24) rfl rfl c kA rfl (by rfl) (by rfl) ⟨_, _, _, rfl⟩ ?_
    intro wd kA2 od
    refine hK.out _ _ (⟨hHeld.1.only od (by omega), hHeld.2.only od (by omega)⟩) (fun hHeld => ?_)
    clear hK K
    replace kX := kX.only od nXA'
    replace gc := od.grew gc WA
    clear kA od
    try simp only [List.getElem_toArray, List.getElem_cons_succ, List.getElem_cons_zero, Act.put, List.setIfInBounds_toArray, List.set_cons_zero, List.set_cons_succ]
    refine wpAnyH_ready (rs := [5]) (by kernel_rfl) (by simp) ?_
    refine AllReadyH.cons rfl (fun K hK => ?_) AllReadyH.nil
    refine step_st_rm rfl (.tmp 6) (.tmp 25) rfl rfl kX rfl (by rfl) (by rfl) ⟨_, _, _, rfl⟩ ?_
    intro we kX2 oe
    refine hK.out _ _ (⟨hHeld.1.only oe (by omega), hHeld.2.only oe (by omega)⟩) (fun hHeld => ?_)
    clear hK K
    have kA3 := kA2.only oe nAX'
    replace gc := oe.grew gc WX
    clear kA2 kX oe
    try simp only [List.getElem_toArray, List.getElem_cons_succ, List.getElem_cons_zero, Act.put, List.setIfInBounds_toArray, List.set_cons_zero, List.set_cons_succ]
    refine wpAnyH_done (by kernel_rfl) ?_ _
    try simp only [List.getElem_toArray, List.getElem_cons_succ, List.getElem_cons_zero, Act.put, List.setIfInBounds_toArray, List.set_cons_zero, List.set_cons_succ]
    have kNe := hHeld.1
    have HNA : Hid (N ≠ A) := Lib.hid (by omega)
    have HNX : Hid (N ≠ X) := Lib.hid (by omega)
    have HAX := Lib.hid nAX'
    have HXA := Lib.hid nXA'
    have HWA := Lib.hid WA
    have HWX := Lib.hid WX
    clear hHeld nAX' nXA' WA WX szA szX szNA szNX
    try clear nAX
    try clear nXA
    clear lN lM nNM nMN
    go_upto_region 5 with fail
    go_loopw [7] (fun i wr => ∃ k : Nat, (k : Int) ≤ c 4 ∧ i = .int .i64 k ∧ ∃ (p1 : Option Addr) (p2 : Nat) (p3 : Option Addr) (p4 : Nat), Hid (Blk wr A (ncA (sendK c xs k).c (.slice p1 6 p2)) 25) ∧ Hid (Blk wr X #[.slice p3 rn p4] 27) ∧ Hid (Blk wr N (ncA c (.slice na 6 nk)) 25) ∧ Hid (Buf wr (.slice p1 6 p2) m) ∧ Hid (Buf wr (.slice p3 rn p4) (sendK c xs k).xs) ∧ Hid (∀ j, j < k → (sendK c xs (j + 1)).b = true) ∧ Grew W wr) (fun i _ => (c 4 + 1).toNat - (intOf i).toNat)
    case atStart => exact ⟨0, by have := hc4.out; omega, rfl, na, nk, ra, rc, Lib.hid kA3, Lib.hid kX2, Lib.hid kNe, Lib.hid (HN.out.grew gc), Lib.hid (HR.out.grew gc), Lib.hid (fun j hj => by omega), gc⟩
    case round =>
      clear kA3 kX2 kNe gc
      obtain ⟨k, hk, rfl, p1, p2, p3, p4, KA, KX, KN, PM, PX, PK, G3⟩ := hrel
      have hkk := sendK_many HC0.out xs k PK.out
      have hle : (k : Int) ≤ c 4 := by omega
      have hok := sendK_ok HC0.out xs k
      have hlen := sendK_len c xs k
      have hmk := sendK_mac HC0.out HMO.out xs k
      have hstop := sendR_stop (c := (sendK c xs k).c) PX.out.ok
      have hSe := Lib.hid (fun (w : World) (h : Buf w (.slice p1 m.length p2) m) (h2 : Buf w (.slice p3 rn p4) (sendK c xs k).xs) => Send_c hmk h h2 (by rw [hlen]; have := HL.out; omega) (by have := H6.out; omega))
      unfold sendS at hSe
      rw [H6.out, ok_chk hok] at hSe
      simp only [if_true] at hSe
      have hRd := Lib.hid (fun (w : World) (h2 : Buf w (.slice p3 rn p4) (sendK c xs k).xs) => refRead_c ((sendK c xs k).c 3 + 16 * (sendK c xs k).c 5 + 10) 1 (by have := hok.r3; have := hok.r5; omega) (by have := hok.r3; have := hok.r4; have := hok.r5; omega) (by decide) (by decide) w h2 (by rw [hlen]; have := HL.out; omega))
      have HRP := Lib.hid (readV_nn PX.out.ok ((sendK c xs k).c 3 + 16 * (sendK c xs k).c 5 + 10) 1)
      have hl2 := sendR_len (sendK c xs k).c (sendK c xs k).xs
      rw [hlen] at hl2
      have hnext : sendK c xs (k + 1) = sendR (sendK c xs k).c (sendK c xs k).xs := rfl
      have r3 := hok.r3
      have r4 := hok.r4
      have r5 := hok.r5
      have r0 := hok.r0
      have hkb := PK.out
      generalize hdd : (sendK c xs k).c = d at *
      generalize hys : (sendK c xs k).xs = ys at *
      generalize hsn : sendR d ys = sn at *
      have HNX2 := Lib.hid hnext
      have HST := Lib.hid hstop
      have HL2 := Lib.hid hl2
      have HKB := Lib.hid hkb
      have HK := Lib.hid hk
      have HKK := Lib.hid hkk
      clear hnext hstop hl2 hkb hdd hys hsn hmk hlen hok PK hk hkk
      have kA := KA.out
      have kX := KX.out
      have kN := KN.out
      clear KA KX KN
      have y4 : wr.cell? ⟨N, 4, none⟩ = some (.int .i64 (c 4)) := kN.cell 4
      go_upto_region 7 with fail
      clear y4
      go_wp2_with (first | (refine ld_nc rfl (.tmp 5) rfl _ rfl kA (by rfl) ?_) | (refine ld_rm rfl (.tmp 6) rfl _ rfl kX (by rfl) ?_))
      refine (hSe.out _ PM.out PX.out).mono ?_
      rintro e w2 ⟨s1, s2, s3, s4, s5, s6, s7, s8, rfl, P1, P2, P3, g2⟩
      have HE4 := Lib.hid (P2.out.lenEq.1)
      rw [HL2.out, HXL.out] at HE4
      obtain ⟨e4⟩ : PLift (s4 = rn) := ⟨HE4.out⟩
      subst e4
      replace kA := kA.grew g2
      replace kX := kX.grew g2
      replace kN := kN.grew g2
      replace PX := Lib.hid (PX.out.grew g2)
      replace G3 := G3.trans g2
      clear g2 P3 HE4 PM hSe
      go_upto_region 8 with (first | (refine al_nc rfl rfl ?_; intro wa kB0 gB) | (refine al_rm rfl rfl ?_; intro wc kD0 gD) | (refine st_nc rfl (.tmp 8) (.tmp 36) rfl rfl sn.c (kB0.grew gD) rfl (by rfl) (by rfl) ⟨_, _, _, rfl⟩ ?_; intro wd kB oB) | (refine st_rm rfl (.tmp 9) (.tmp 37) rfl rfl (kD0.only oB (by have := kB0.lt; omega)) rfl (by rfl) (by rfl) ⟨_, _, _, rfl⟩ ?_; intro we kD oD))
      have gbe : Grew w2 we := oD.grew (oB.grew (gB.trans gD) (Nat.le_refl _)) gB.size
      have kB := kB.only oD (by have := kB0.lt; omega)
      have lA := kA.lt
      have lX := kX.lt
      have lNN := kN.lt
      have lB := kB0.lt
      have nB : A ≠ w2.heap.size ∧ X ≠ w2.heap.size ∧ N ≠ w2.heap.size ∧ A ≠ wa.heap.size ∧ X ≠ wa.heap.size ∧ N ≠ wa.heap.size ∧ w2.heap.size ≠ wa.heap.size := ⟨by omega, by omega, by omega, by omega, by omega, by omega, by omega⟩
      replace kA := kA.grew gbe
      replace kX := kX.grew gbe
      replace kN := kN.grew gbe
      replace PX := Lib.hid (PX.out.grew gbe)
      replace P1 := Lib.hid (P1.out.grew gbe)
      replace P2 := Lib.hid (P2.out.grew gbe)
      replace G3 := G3.trans gbe
      clear gbe kB0 gB kD0 gD oB oD lA lX lNN lB
      generalize w2.heap.size = B at *
      generalize wa.heap.size = D at *
      have HNB := Lib.hid nB
      clear nB
      go_upto_region 8 with fail
      cases hb : sn.b
      · have hst := HST.out hb
        have q3 : IntKind.u64.wrap (d 5) = d 5 := IntWalk.u64_in _ (by omega)
        have q4 : IntKind.u64.wrap (16 * d 5) = 16 * d 5 := IntWalk.u64_in _ (by omega)
        have q5 : IntKind.u64.wrap (d 3 + 16 * d 5) = d 3 + 16 * d 5 := IntWalk.u64_in _ (by omega)
        have q6 : IntKind.u64.wrap (d 3 + 16 * d 5 + 10) = d 3 + 16 * d 5 + 10 := IntWalk.u64_in _ (by omega)
        have HST2 := Lib.hid hst
        clear hst HST
        have y3 : we.cell? ⟨A, 3, none⟩ = some (.int .u64 (d 3)) := kA.cell 3
        have y5 : we.cell? ⟨A, 5, none⟩ = some (.int .i64 (d 5)) := kA.cell 5
        go_upto_region 9 with fail
        go_wp2_with (refine ld_rm rfl (.tmp 6) rfl _ rfl kX (by rfl) ?_)
        refine (hRd.out _ PX.out).mono ?_
        rintro e w3 ⟨rfl, g3⟩
        replace kA := kA.grew g3
        replace G3 := G3.trans g3
        clear y3 y5 q3 q4 q5 q6 r3 r4 r5
        have z5 : w3.cell? ⟨A, 5, none⟩ = some (.int .i64 (d 5)) := kA.cell 5
        have z6 : w3.cell? ⟨A, 6, none⟩ = some (.int .i64 (d 6)) := kA.cell 6
        have z0 : w3.cell? ⟨A, 0, none⟩ = some (.int .i64 (d 0)) := kA.cell 0
        have e0 : (d 0).tmod 2 = d 0 % 2 := Int.tmod_eq_emod_of_nonneg r0.1
        have hst := HST2.out
        have eR : (readV ys (d 3 + 16 * d 5 + 10) 1).tmod 2 = readV ys (d 3 + 16 * d 5 + 10) 1 % 2 := Int.tmod_eq_emod_of_nonneg HRP.out
        rw [show sizeV 1 = true from rfl, Bool.true_and]
        generalize readV ys (d 3 + 16 * d 5 + 10) 1 = rv at *
        generalize insideV ys.length (d 3 + 16 * d 5 + 10) 1 = iv at *
        by_cases h56 : d 5 = d 6
        · have u1 : (d 5 == d 6) = true := by simpa using h56
          clear h56 hst
          go_wp2_with fail
          refine (heads_c G3).mono ?_
          rintro e wh ⟨rfl, gh⟩
          go_wp2_with fail
          go_ret
          exact ⟨rfl, gh⟩
        · have u1 : (d 5 == d 6) = false := by simpa using h56
          by_cases h0 : d 0 % 2 = 0
          · have u2 : (d 0 % 2 == 0) = true := by simpa using h0
            clear h56 h0 hst
            go_wp2_with fail
            refine (heads_c G3).mono ?_
            rintro e wh ⟨rfl, gh⟩
            go_wp2_with fail
            go_ret
            exact ⟨rfl, gh⟩
          · have u2 : (d 0 % 2 == 0) = false := by simpa using h0
            obtain ⟨hi, hr⟩ : iv = true ∧ rv % 2 = 0 := by rcases hst with h | h | h; exact absurd h h56; exact absurd h h0; exact h
            subst hi
            have u3 : (rv % 2 == 0) = true := by simpa using hr
            clear h56 h0 hst hr
            go_wp2_with fail
            refine (heads_c G3).mono ?_
            rintro e wh ⟨rfl, gh⟩
            go_wp2_with fail
            go_ret
            exact ⟨rfl, gh⟩
      · clear HST hRd r3 r4 r5 r0
        go_upto_region 11 with fail
        replace kA := kA.drew
        replace kX := kX.drew
        replace kN := kN.drew
        replace P1 := Lib.hid P1.out.drew
        replace P2 := Lib.hid P2.out.drew
        replace G3 := G3.drew1
        refine wp_region_held_drew (S := fun w' => Blk w' B (ncA sn.c (.slice s1 6 s2)) 25 ∧ Blk w' D #[.slice s3 s4 s5] 27) (by kernel_rfl) (⟨kB.drew, kD.drew⟩) (fun hHeld => ?_)
        replace hHeld : Blk we.drew B (ncA sn.c (.slice s1 6 s2)) 25 ∧ Blk we.drew D #[.slice s3 s4 s5] 27 := hHeld
        generalize we.drew = wk0 at *
        refine wpAnyH_take (i := 0) (v := (ncV sn.c (.slice s1 6 s2))) rfl (by kernel_rfl) (by kernel_rfl) (by kernel_rfl) (fun _ _ _ h => h) (yl_nc rfl (by rfl) (by rfl) fun _ h => h.1) hHeld ?_
        try simp only [List.getElem_toArray, List.getElem_cons_succ, List.getElem_cons_zero, Act.put, List.setIfInBounds_toArray, List.set_cons_zero, List.set_cons_succ]
        refine wpAnyH_take (i := 1) (v := (.agg #[.slice s3 s4 s5])) rfl (by kernel_rfl) (by kernel_rfl) (by kernel_rfl) (fun _ _ _ h => h) (yl_rm rfl (by rfl) (by rfl) fun _ h => h.2) hHeld ?_
        try simp only [List.getElem_toArray, List.getElem_cons_succ, List.getElem_cons_zero, Act.put, List.setIfInBounds_toArray, List.set_cons_zero, List.set_cons_succ]
        refine wpAnyH_ready (rs := [2]) (by kernel_rfl) (by simp) ?_
        refine AllReadyH.cons rfl (fun K hK => ?_) AllReadyH.nil
        refine step_st_nc rfl (.tmp 5) (.tmp 77) rfl rfl sn.c kA rfl (by rfl) (by rfl) ⟨_, _, _, rfl⟩ ?_
        intro wg kA2 og
        refine hK.out _ _ (⟨hHeld.1.only og (Ne.symm HNB.out.1), hHeld.2.only og (Ne.symm HNB.out.2.2.2.1)⟩) (fun hHeld => ?_)
        clear hK K
        have P1a := Lib.hid (P1.out.only og kA (nb_nc _ _ _ _))
        have P2a := Lib.hid (P2.out.only og kA (nb_nc _ _ _ _))
        replace kX := kX.only og HXA.out
        replace kN := kN.only og HNA.out
        replace G3 := og.grew G3 HWA.out
        clear kA og P1 P2
        try simp only [List.getElem_toArray, List.getElem_cons_succ, List.getElem_cons_zero, Act.put, List.setIfInBounds_toArray, List.set_cons_zero, List.set_cons_succ]
        refine wpAnyH_ready (rs := [3]) (by kernel_rfl) (by simp) ?_
        refine AllReadyH.cons rfl (fun K hK => ?_) AllReadyH.nil
        refine step_st_rm rfl (.tmp 6) (.tmp 78) rfl rfl kX rfl (by rfl) (by rfl) ⟨_, _, _, rfl⟩ ?_
        intro wi kX2 oi
        refine hK.out _ _ (⟨hHeld.1.only oi (Ne.symm HNB.out.2.1), hHeld.2.only oi (Ne.symm HNB.out.2.2.2.2.1)⟩) (fun hHeld => ?_)
        clear hK K
        have P1b := Lib.hid (P1a.out.only oi kX (nb_one _ (fun x h => by cases h)))
        have P2b := Lib.hid (P2a.out.only oi kX (nb_one _ (fun x h => by cases h)))
        replace kA2 := kA2.only oi HAX.out
        replace kN := kN.only oi HNX.out
        replace G3 := oi.grew G3 HWX.out
        clear kX oi P1a P2a hHeld
        try simp only [List.getElem_toArray, List.getElem_cons_succ, List.getElem_cons_zero, Act.put, List.setIfInBounds_toArray, List.set_cons_zero, List.set_cons_succ]
        refine wpAnyH_done (by kernel_rfl) ?_ _
        try simp only [List.getElem_toArray, List.getElem_cons_succ, List.getElem_cons_zero, Act.put, List.setIfInBounds_toArray, List.set_cons_zero, List.set_cons_succ]
        go_wp2_with fail
        have hkb : (k : Int) ≤ 64 := by have := HKK.out; have := hc4.out; omega
        have hwk : wrap64 ((k : Int) + 1) = (k : Int) + 1 := IntWalk.wrap64_in _ (by omega)
        go_roundw
        case rel => exact ⟨k + 1, by have := HKK.out; omega, congrArg (Value.int .i64) (by first | rfl | (rw [hwk]; omega) | omega), s1, s2, s3, s5, Lib.hid (by rw [HNX2.out]; exact kA2), Lib.hid kX2, Lib.hid kN, P1b, Lib.hid (by rw [HNX2.out]; exact P2b.out), Lib.hid (fun j hj => by rcases Nat.lt_succ_iff_lt_or_eq.1 hj with h | h; exact HKB.out j h; rw [h, HNX2.out]; exact hb), G3⟩
        case measure => exact drain_meas HKK.out hwk
theorem walk (c : Nat → Int) (m : List Int) (na : Option Addr) (nk : Nat) (ra : Option Addr) (rn rc : Nat) (xs : List Int) (W : World) (hN : Buf W (.slice na m.length nk) m) (hmo : MacOf c m) (_hfit : m.length ≤ 140737488355328) (hR : Buf W (.slice ra rn rc) xs) :
    Calls Try.prog 3 #[ncV c (.slice na m.length nk), .agg #[.slice ra rn rc]] W fun e w' => e = .returned (.bool true) ∧ Below W.heap.size W w' := by
  cases hb : (decide ((20000 : Int) < (rn : Nat)) || !chkB c m.length)
  · simp only [Bool.or_eq_false_iff, decide_eq_false_iff_not, Bool.not_eq_false'] at hb
    obtain ⟨h1, h3⟩ := hb
    obtain ⟨hc, hi⟩ := chk_ok hmo hN.ok h3
    have h6 := hi.1
    rw [h6] at hN ⊢
    exact walk_near c m na nk ra rn rc xs W hN h6 hmo hc hR h1
  · exact walk_far c m.length na nk ra rn rc W _ _ rfl rfl hb
set_option maxRecDepth 100000 in
theorem lifted (os : Os) (started : os.Started) (H : Type) (enc : TypeId × Value → H) :
    ReturnsInHanded {} Try.checked os 3 .any (Rows.nicDrainsSpec.pre6 enc Try.prog Try.f3 Rows.nicDrainsRow.domain false) (Rows.nicDrainsSpec.post enc Try.prog Try.f3 false true false false) := by
  refine returnsInHanded_of_change_sized (C := Try.checked) own started (by kernel_rfl) Try.func3
    (ChangeSpec.witness6 (enc := enc) (C := Try.checked) false ⟨#[], #[.agg #[.int .i64 0, .int .i64 0, .int .i64 0, .int .u64 0, .int .i64 0, .int .i64 0, .int .i64 0, .int .u64 0, .int .i64 0, .int .i64 0, .int .i64 0, .int .i64 0, .int .i64 0, .slice none 0 0], .agg #[.slice none 0 0]], []⟩ 8 (by kernel_rfl) (by kernel_rfl) (by kernel_rfl) (by kernel_rfl)) ?_
  intro W base args ds gs before hval0 hW _ hz0 _
  have hval : ∀ (j : Nat) t v, Try.f3.params[j]? = some t → args[j]? = some v → Value.okWide Try.prog W .any base t v := hval0
  have hW' := hW
  obtain ⟨p, q, hA0, hV, rfl, hfz, hnd⟩ := hW
  have hA : DataW.TrodAll enc Try.prog W 0 (fun _ => true) true Try.f3.params.toList args.toList ds p := hA0
  rw [Try.params3] at hA hval
  obtain ⟨v0, vs0, d0, ds0, p0, q0, hargs, rfl, rfl, h0, r'0⟩ := trodAll_cons hA
  obtain ⟨v1, vs1, d1, ds1, p1, q1, rfl, rfl, rfl, h1, r'1⟩ := trodAll_cons r'0
  obtain ⟨rfl, rfl, rfl⟩ := trodAll_nil r'1
  obtain rfl : args = #[v0, v1] := by cases args; simp_all
  obtain ⟨c0, m0, na0, nk0, rfl, k0, mo0, f0⟩ := open_nic (hval 0 25 v0 rfl rfl) h0
  have fits0 := f0 (fun m hm => by simpa using List.all_eq_true.1 hz0 _ (DataW.weights_mem_each (j := 0) (t := 25) rfl rfl m hm))
  obtain ⟨a1, n1, c1, x1, rfl, k1⟩ := open_ram (hval 1 27 v1 rfl rfl) h1
  refine (walk c0 m0 na0 nk0 a1 n1 c1 x1 W k0 mo0 fits0 k1).mono fun e W' ⟨he, hb⟩ => ?_
  subst he
  exact ⟨_, rfl, law_post hW' rfl rfl laid (by kernel_rfl) rfl Try.underlying4 hb⟩

theorem over : Rows.nicDrainsRow.holds Try.pinned (OpenSpec.ofChange Rows.nicDrainsSpec) :=
  OpenClaim.holds_of_wide 3 Try.f3 rfl rfl rfl rfl rfl rfl rfl ⟨rfl, rfl, rfl, rfl, rfl⟩ rfl rfl rfl rfl rfl (by kernel_rfl) Try.func3 (by kernel_rfl)
    (of_decide_eq_true (by kernel_rfl)) (by unfold Func.isWrapper; first | (rw [if_pos (by decide +kernel)]; kernel_rfl) | (rw [if_neg (by decide +kernel)]; exact ⟨rfl, rfl⟩))
    (fun os started H enc _ => lifted os started H enc)

theorem proved : Rows.NicDrainsSaid := over
#print axioms proved
end Go.Proofs.Ythmaaellpfoaiaa.nicDrains
