/-
  Package nic: what is done with a descriptor (done).
-/
import Derived.Test.YtoehdhhodidehaaRows
import Derived.Test.YtoehdhhodidehaaNcF
import Derived.Test.YtoehdhhodidehaaNcD
import Derived.WalkKit
import Derived.Outline
import Derived.Handy
import Derived.StillTailTactics
import Derived.Deep.QuietTactic
import Derived.BigQuiet
import Derived.Deep.DeepCutAuto
import Derived.Deep.RegionHeld3
import Derived.Great.BuildSlice
import Derived.Deep.WholeRow
import Derived.Lib.SliceRun
set_option maxRecDepth 4000
set_option linter.unusedVariables false
set_option linter.unusedSimpArgs false
namespace Go.Proofs.Ytoehdhhodidehaa
open Go.RowKit

/-- Flags without bit 0, and a status. -/
def bothV (ds : List Int) (st : Int) : Int := bits .or .u64 (bits .andNot .u64 (getV (cutL ds 10 12) false) 1) (st * 65536)
def headt (c : Nat → Int) : Nat → Int := upd c 5 ((c 5 + 1) % c 4)
def headr (c : Nat → Int) : Nat → Int := upd c 9 ((c 9 + 1) % c 8)
theorem load_ram {w : World} {g : Nat} {v : Value} (h : w.cell? ⟨g, 0, none⟩ = some v) (hv : ∃ a n k, v = .slice a n k) : (loadVar 27 ⟨g, 0, none⟩).run Try.prog w = .ok (.agg #[v]) w := by
  obtain ⟨a, n, k, rfl⟩ := hv
  go_simp
set_option maxHeartbeats 2000000 in
theorem done_t {c : Nat → Int} {p : Nat} {w : World} {a : Option Addr} {n m : Nat} {xs ds : List Int} (st : Int) (hs0 : 0 ≤ st) (hs1 : st < 256) (hB : Blk w p (rgA c) 80) (hM : Buf w (.slice a n m) xs) (hl : xs.length ≤ 140737488355328) (hd : AreBytes ds) (hd16 : ds.length = 16) (h0 : 0 ≤ c 3) (h1 : c 3 < 4294967296) (h2 : 0 ≤ c 5) (h3 : c 5 < 64) (h4 : 1 ≤ c 4) (h5 : c 4 ≤ 64) (hb0 : 0 ≤ bothV ds st) (hb1 : bothV ds st < 18446744073709551616) :
    Calls Try.prog 63 #[.pointer (some ⟨p, 0, none⟩), .agg (rgVt), .agg #[.slice a n m], .agg (dsA ds), .int .u64 st] w fun e w' => ∃ a' n' m', e = .returned (.agg #[.slice a' n' m']) ∧ Hid (Buf w' (.slice a' n' m') (writeV xs (c 3 + 16 * c 5 + 10) 4 (bothV ds st))) ∧ Blk w' p (rgA (headt c)) 80 ∧ Trn p w w' := by
  have hPl := Lib.hid (fun (w : World) (h : Blk w p (rgA c) 80) => place_t h h0 h1 h2 h3)
  have hWr := Lib.hid (fun (w : World) (h : Buf w (.slice a n m) xs) => write_c (c 3 + 16 * c 5 + 10) 4 (bothV ds st) (by omega) (by omega) hb0 hb1 w h hl)
  have hPa := Lib.hid (part_10 hd hd16)
  have hq : IntKind.u32.wrap (c 5 + 1) = c 5 + 1 := u32_in (by omega)
  have hw1 : IntKind.u64.wrap (c 3 + 16 * c 5 + 10) = c 3 + 16 * c 5 + 10 := IntWalk.u64_in _ (by omega)
  have hsh : IntKind.u64.wrap (st * 65536) = st * 65536 := IntWalk.u64_in _ (by omega)
  have hbo : bits .or .u64 (bits .andNot .u64 (getV (cutL ds 10 12) false) 1) (st * 65536) = bothV ds st := rfl
  generalize getV (cutL ds 10 12) false = fl at *
  generalize bothV ds st = bo at *
  have hok := Lib.hid (writeV_ok (c 3 + 16 * c 5 + 10) 4 bo hM.ok)
  have hwl := Lib.hid (writeV_length xs (c 3 + 16 * c 5 + 10) 4 bo)
  generalize writeV xs (c 3 + 16 * c 5 + 10) 4 bo = ys at *
  have HM := Lib.hid hM
  have hp := hB.lt
  generalize c 3 + 16 * c 5 = at0 at *
  have H16 := Lib.hid hd16
  clear hM hl h0 h1 hb0 hb1 hd hd16 hs0 hs1
  go_enter Try.func63, Try.ntmps63
  go_upto_region 1 with fail
  have kG : Blk ((((w.alloc (.cells rgVt 82)).alloc (.cells #[.slice a n m] 27)).alloc (.cells (dsA ds) 86)).alloc (.cells #[.slice none 0 0] 27)) w.heap.size rgVt 82 := (((Blk.new w rgVt 82 _ rfl).alloc (.cells #[.slice a n m] 27)).alloc (.cells (dsA ds) 86)).alloc (.cells #[.slice none 0 0] 27)
  have kM : Blk ((((w.alloc (.cells rgVt 82)).alloc (.cells #[.slice a n m] 27)).alloc (.cells (dsA ds) 86)).alloc (.cells #[.slice none 0 0] 27)) (w.heap.size + 1) #[.slice a n m] 27 := ((Blk.new (w.alloc (.cells rgVt 82)) #[.slice a n m] 27 _ (by simp)).alloc (.cells (dsA ds) 86)).alloc (.cells #[.slice none 0 0] 27)
  have kD : Blk ((((w.alloc (.cells rgVt 82)).alloc (.cells #[.slice a n m] 27)).alloc (.cells (dsA ds) 86)).alloc (.cells #[.slice none 0 0] 27)) (w.heap.size + 2) (dsA ds) 86 := (Blk.new ((w.alloc (.cells rgVt 82)).alloc (.cells #[.slice a n m] 27)) (dsA ds) 86 _ (by simp)).alloc (.cells #[.slice none 0 0] 27)
  have kR : Blk ((((w.alloc (.cells rgVt 82)).alloc (.cells #[.slice a n m] 27)).alloc (.cells (dsA ds) 86)).alloc (.cells #[.slice none 0 0] 27)) (w.heap.size + 3) #[.slice none 0 0] 27 := Blk.new (((w.alloc (.cells rgVt 82)).alloc (.cells #[.slice a n m] 27)).alloc (.cells (dsA ds) 86)) #[.slice none 0 0] 27 _ (by simp)
  have g0 : Grew w ((((w.alloc (.cells rgVt 82)).alloc (.cells #[.slice a n m] 27)).alloc (.cells (dsA ds) 86)).alloc (.cells #[.slice none 0 0] 27)) := ((((Grew.refl w).alloc (.cells rgVt 82)).alloc (.cells #[.slice a n m] 27)).alloc (.cells (dsA ds) 86)).alloc (.cells #[.slice none 0 0] 27)
  replace hB := ((((hB).alloc (.cells rgVt 82)).alloc (.cells #[.slice a n m] 27)).alloc (.cells (dsA ds) 86)).alloc (.cells #[.slice none 0 0] 27)
  generalize ((((w.alloc (.cells rgVt 82)).alloc (.cells #[.slice a n m] 27)).alloc (.cells (dsA ds) 86)).alloc (.cells #[.slice none 0 0] 27)) = w0 at *
  have lG : w.heap.size ≤ w.heap.size := by omega
  have lM : w.heap.size ≤ (w.heap.size + 1) := by omega
  have lD : w.heap.size ≤ (w.heap.size + 2) := by omega
  have lR : w.heap.size ≤ (w.heap.size + 3) := by omega
  have nGM : w.heap.size ≠ (w.heap.size + 1) := by omega
  have nGD : w.heap.size ≠ (w.heap.size + 2) := by omega
  have nGR : w.heap.size ≠ (w.heap.size + 3) := by omega
  have nMG : (w.heap.size + 1) ≠ w.heap.size := by omega
  have nMD : (w.heap.size + 1) ≠ (w.heap.size + 2) := by omega
  have nMR : (w.heap.size + 1) ≠ (w.heap.size + 3) := by omega
  have nDG : (w.heap.size + 2) ≠ w.heap.size := by omega
  have nDM : (w.heap.size + 2) ≠ (w.heap.size + 1) := by omega
  have nDR : (w.heap.size + 2) ≠ (w.heap.size + 3) := by omega
  have nRG : (w.heap.size + 3) ≠ w.heap.size := by omega
  have nRM : (w.heap.size + 3) ≠ (w.heap.size + 1) := by omega
  have nRD : (w.heap.size + 3) ≠ (w.heap.size + 2) := by omega
  generalize (w.heap.size + 3) = R at *
  generalize (w.heap.size + 2) = D at *
  generalize (w.heap.size + 1) = M at *
  generalize hZ : w.heap.size = G at *
  have HZ := Lib.hid hZ
  clear hZ
  have LG : Hid (w.heap.size ≤ G) := Lib.hid (by rw [HZ.out]; exact lG)
  have LM : Hid (w.heap.size ≤ M) := Lib.hid (by rw [HZ.out]; exact lM)
  have LD : Hid (w.heap.size ≤ D) := Lib.hid (by rw [HZ.out]; exact lD)
  have LR : Hid (w.heap.size ≤ R) := Lib.hid (by rw [HZ.out]; exact lR)
  have hpG : p < G := hp
  replace HM := Lib.hid (HM.out.grew g0)
  go_wp2_with (refine ld_ds rfl (.tmp 8) rfl _ rfl H16.out kD (by rfl) ?_)
  refine (hPa.out _).mono ?_
  rintro e w1 ⟨rfl, g1⟩
  replace hB := hB.grew g1
  replace kG := kG.grew g1
  replace kM := kM.grew g1
  replace kR := kR.grew g1
  replace HM := Lib.hid (HM.out.grew g1)
  replace g0 := g0.trans g1
  clear kD g1
  go_upto_region 3 with fail
  refine wp_region_held_drew (S := fun w' => Grew w1 w') (by kernel_rfl) ((Grew.refl w1).drew1) (fun hHeld => ?_)
  replace hHeld : Grew w1 w1.drew := hHeld
  generalize w1.drew = wq0 at *
  refine wpAnyH_take (i := 0) (v := ?_) rfl (by kernel_rfl) (by kernel_rfl) (by kernel_rfl) (fun _ _ _ h => h) (Or.inl ⟨by rfl, ?_⟩) hHeld ?_
  rotate_left
  · intro wq hSw
    replace hSw : Grew w1 wq := hSw
    have y0 := (kM.grew hSw).cell 0
    go_simp
    try with_reducible rfl
  try simp only [List.getElem_toArray, List.getElem_cons_succ, List.getElem_cons_zero, Act.put, List.setIfInBounds_toArray, List.set_cons_zero, List.set_cons_succ]
  refine wpAnyH_take (i := 1) (v := ?_) rfl (by kernel_rfl) (by kernel_rfl) (by kernel_rfl) (fun _ _ _ h => h) (Or.inl ⟨by rfl, ?_⟩) hHeld ?_
  rotate_left
  · intro wq hSw
    replace hSw : Grew w1 wq := hSw
    go_simp
    try with_reducible rfl
  try simp only [List.getElem_toArray, List.getElem_cons_succ, List.getElem_cons_zero, Act.put, List.setIfInBounds_toArray, List.set_cons_zero, List.set_cons_succ]
  refine wpAnyH_take (i := 2) (v := ?_) rfl (by kernel_rfl) (by kernel_rfl) (by kernel_rfl) (fun _ _ _ h => h) (Or.inl ⟨by rfl, ?_⟩) hHeld ?_
  rotate_left
  · intro wq hSw
    replace hSw : Grew w1 wq := hSw
    have y0 : wq.cell? ⟨G, 0, none⟩ = some (.int .i64 3) := (kG.grew hSw).cell 0
    have y1 : wq.cell? ⟨G, 1, none⟩ = some (.int .i64 4) := (kG.grew hSw).cell 1
    have y2 : wq.cell? ⟨G, 2, none⟩ = some (.int .i64 5) := (kG.grew hSw).cell 2
    have y3 : wq.cell? ⟨G, 3, none⟩ = some (.int .i64 6) := (kG.grew hSw).cell 3
    have y4 : wq.cell? ⟨G, 4, none⟩ = some (.int .u32 1) := (kG.grew hSw).cell 4
    go_simp
    try with_reducible rfl
  try simp only [List.getElem_toArray, List.getElem_cons_succ, List.getElem_cons_zero, Act.put, List.setIfInBounds_toArray, List.set_cons_zero, List.set_cons_succ]
  refine wpAnyH_take (i := 5) (v := ?_) rfl (by kernel_rfl) (by kernel_rfl) (by kernel_rfl) (fun _ _ _ h => h) (Or.inl ⟨by rfl, ?_⟩) hHeld ?_
  rotate_left
  · intro wq hSw
    replace hSw : Grew w1 wq := hSw
    go_simp
    try with_reducible rfl
  try simp only [List.getElem_toArray, List.getElem_cons_succ, List.getElem_cons_zero, Act.put, List.setIfInBounds_toArray, List.set_cons_zero, List.set_cons_succ]
  refine wpAnyH_ready (rs := [3, 10]) (by kernel_rfl) (by simp) ?_
  refine AllReadyH.cons rfl (fun K hK => ?_) (AllReadyH.cons rfl (fun K hK => ?_) AllReadyH.nil)
  · go_simp
    refine Calls.mono (hPl.out _ (hB.grew hHeld)) ?_
    rintro e w3 ⟨rfl, g3⟩
    refine hK.out _ _ (hHeld.trans g3) (fun hHeld => ?_)
    clear hK K
    generalize w3 = wc at *
    try simp only [List.getElem_toArray, List.getElem_cons_succ, List.getElem_cons_zero, Act.put, List.setIfInBounds_toArray, List.set_cons_zero, List.set_cons_succ]
    refine wpAnyH_take (i := 4) (v := ?_) rfl (by kernel_rfl) (by kernel_rfl) (by kernel_rfl) (fun _ _ _ h => h) (Or.inl ⟨by rfl, ?_⟩) hHeld ?_
    rotate_left
    · intro wq hSw
      replace hSw : Grew w1 wq := hSw
      go_simp
      try with_reducible rfl
    try simp only [List.getElem_toArray, List.getElem_cons_succ, List.getElem_cons_zero, Act.put, List.setIfInBounds_toArray, List.set_cons_zero, List.set_cons_succ]
    refine wpAnyH_ready (rs := [6, 10]) (by kernel_rfl) (by simp) ?_
    refine AllReadyH.cons rfl (fun K hK => ?_) (AllReadyH.cons rfl (fun K hK => ?_) AllReadyH.nil)
    · go_simp
      refine Calls.mono (hWr.out _ (HM.out.grew hHeld)) ?_
      rintro e w4 ⟨gg, rfl, hr, g4⟩
      have HY := Lib.hid (hr.buf hok.out)
      clear hr
      refine hK.out _ _ (hHeld.trans g4) (fun hHeld => ?_)
      clear hK K
      clear g4
      generalize w4 = wd at *
      try simp only [List.getElem_toArray, List.getElem_cons_succ, List.getElem_cons_zero, Act.put, List.setIfInBounds_toArray, List.set_cons_zero, List.set_cons_succ]
      refine wpAnyH_take (i := 7) (v := ?_) rfl (by kernel_rfl) (by kernel_rfl) (by kernel_rfl) (fun _ _ _ h => h) (Or.inl ⟨by rfl, ?_⟩) hHeld ?_
      rotate_left
      · intro wq hSw
        replace hSw : Grew w1 wq := hSw
        go_simp
        try with_reducible rfl
      try simp only [List.getElem_toArray, List.getElem_cons_succ, List.getElem_cons_zero, Act.put, List.setIfInBounds_toArray, List.set_cons_zero, List.set_cons_succ]
      refine wpAnyH_take (i := 8) (v := ?_) rfl (by kernel_rfl) (by kernel_rfl) (by kernel_rfl) (fun _ _ _ h => h) (Or.inl ⟨by rfl, ?_⟩) hHeld ?_
      rotate_left
      · intro wq hSw
        replace hSw : Grew w1 wq := hSw
        go_simp
        try with_reducible rfl
      try simp only [List.getElem_toArray, List.getElem_cons_succ, List.getElem_cons_zero, Act.put, List.setIfInBounds_toArray, List.set_cons_zero, List.set_cons_succ]
      refine wpAnyH_take (i := 9) (v := ?_) rfl (by kernel_rfl) (by kernel_rfl) (by kernel_rfl) (fun _ _ _ h => h) (Or.inl ⟨by rfl, ?_⟩) hHeld ?_
      rotate_left
      · intro wq hSw
        replace hSw : Grew w1 wq := hSw
        go_simp
        try with_reducible rfl
      try simp only [List.getElem_toArray, List.getElem_cons_succ, List.getElem_cons_zero, Act.put, List.setIfInBounds_toArray, List.set_cons_zero, List.set_cons_succ]
      refine wpAnyH_ready (rs := [10]) (by kernel_rfl) (by simp) ?_
      refine AllReadyH.cons rfl (fun K hK => ?_) AllReadyH.nil
      go_simp
      have hN := hHeld.size
      refine hK.out _ _ (hHeld.alloc _) (fun hHeld => ?_)
      clear hK K
      have KN : Blk (wd.alloc (.cells #[.slice none 0 0] 27)) wd.heap.size #[.slice none 0 0] 27 := Blk.new _ _ _ _ rfl
      replace HY := Lib.hid (HY.out.grew ((Grew.refl wd).alloc (.cells #[.slice none 0 0] 27)))
      generalize (wd.alloc (.cells #[.slice none 0 0] 27)) = we at *
      generalize wd.heap.size = N at *
      try simp only [List.getElem_toArray, List.getElem_cons_succ, List.getElem_cons_zero, Act.put, List.setIfInBounds_toArray, List.set_cons_zero, List.set_cons_succ]
      refine wpAnyH_ready (rs := [11]) (by kernel_rfl) (by simp) ?_
      refine AllReadyH.cons rfl (fun K hK => ?_) AllReadyH.nil
      have z0 := KN.cell 0
      have f0 := KN.free 0
      go_simp
      have KN1 := KN.set (o := 0) (.slice (some ⟨gg, 0, none⟩) xs.length xs.length)
      have HY1 := Lib.hid (HY.out.store KN (.slice (some ⟨gg, 0, none⟩) xs.length xs.length))
      refine hK.out _ _ (hHeld.setCell hN _) (fun hHeld => ?_)
      clear hK K
      clear z0 f0 KN HY
      generalize (we.setCell ⟨N, 0, none⟩ (.slice (some ⟨gg, 0, none⟩) xs.length xs.length)) = wf at *
      replace KN1 : Blk wf N #[.slice (some ⟨gg, 0, none⟩) xs.length xs.length] 27 := KN1
      try simp only [List.getElem_toArray, List.getElem_cons_succ, List.getElem_cons_zero, Act.put, List.setIfInBounds_toArray, List.set_cons_zero, List.set_cons_succ]
      refine wpAnyH_take (i := 12) (v := ?_) rfl (by kernel_rfl) (by kernel_rfl) (by kernel_rfl) (fun _ _ _ h => h) (Or.inl ⟨by rfl, ?_⟩) hHeld ?_
      rotate_left
      · intro wq hSw
        replace hSw : Grew w1 wq := hSw
        go_simp
        try with_reducible rfl
      try simp only [List.getElem_toArray, List.getElem_cons_succ, List.getElem_cons_zero, Act.put, List.setIfInBounds_toArray, List.set_cons_zero, List.set_cons_succ]
      refine wpAnyH_done (by kernel_rfl) ?_ _
      try simp only [List.getElem_toArray, List.getElem_cons_succ, List.getElem_cons_zero, Act.put, List.setIfInBounds_toArray, List.set_cons_zero, List.set_cons_succ]
      have hB1 := hB.grew hHeld
      have kG1 := kG.grew hHeld
      have kR1 := kR.grew hHeld
      have g1 := g0.trans hHeld
      have hNR : N ≠ R := by have := kR.lt; omega
      have hNp : N ≠ p := by have := hB.lt; omega
      clear hB kG kR kM g0 hHeld HM
      go_upto_region 4 with fail
      have z0 := fun z : Over wf => hB1.rgO 4 (by decide) z
      have z1 := fun z : Over wf => hB1.rgO 5 (by decide) z
      have z2 := fun z : Over wf => kG1.overCell 1 (.int .i64 4) rfl z
      have z3 := fun z : Over wf => kG1.overCell 2 (.int .i64 5) rfl z
      refine region_over_tail 19 (by kernel_rfl) (by kernel_rfl) ?_
      simp only [List.take_succ_cons, List.take_zero, List.drop_succ_cons, List.drop_zero]
      repeat (first | go_big_quiet_step (fail) | quiet_step (fail))
      refine wpQuiet_nil ?_
      intro z
      have hB2 := hB1.over z
      have kR2 := kR1.over z
      have KN2 := KN1.over z
      have HY2 := Lib.hid (HY1.out.grew z.g)
      have g2 := g1.trans z.g
      clear z0 z1 z2 z3 hB1 kR1 KN1 HY1 g1
      generalize z.w = w6 at *
      have c0 := hB2.rgC 5 (by decide)
      have f0 := hB2.free 5
      go_upto_region 5 with fail
      have hB3 := hB2.rg (by decide : 5 < 15) ((c 5 + 1) % c 4)
      have o3 := Only.set w6 p 5 (.int .u32 ((c 5 + 1) % c 4))
      have HY3 := Lib.hid (HY2.out.only o3 hB2 (nb_rg c))
      clear c0 f0 hB2 HY2
      generalize (w6.setCell ⟨p, 5, none⟩ (.int .u32 ((c 5 + 1) % c 4))) = w7 at *
      have kR3 := kR2.only o3 (by omega)
      have KN3 := KN2.only o3 hNp
      have t3 : Trn p w w7 := (Trn.of_grew g2).trans o3.trn
      clear o3 g2 kR2 KN2
      have y0 := KN3.cell 0
      have y1 := kR3.cell 0
      have f1 := kR3.free 0
      go_wp2_with fail
      have hset := (kR3.set (o := 0) (.slice (some ⟨gg, 0, none⟩) xs.length xs.length)).cell 0
      have HY4 := Lib.hid (HY3.out.store kR3 (.slice (some ⟨gg, 0, none⟩) xs.length xs.length))
      have tz := t3.only (Only.set w7 R 0 (.slice (some ⟨gg, 0, none⟩) xs.length xs.length)) LR.out
      have hB4 := hB3.other (c := R) (o := 0) (by omega) (.slice (some ⟨gg, 0, none⟩) xs.length xs.length)
      exact bodyPost_ret (v := .agg #[.slice (some ⟨gg, 0, none⟩) xs.length xs.length]) (by simp [results, Try.results63, go_sem, hset]) rfl ⟨_, _, _, rfl, HY4, hB4, tz⟩
    · go_simp
      have hN := hHeld.size
      refine hK.out _ _ (hHeld.alloc _) (fun hHeld => ?_)
      clear hK K
      have KN : Blk (wc.alloc (.cells #[.slice none 0 0] 27)) wc.heap.size #[.slice none 0 0] 27 := Blk.new _ _ _ _ rfl
      generalize (wc.alloc (.cells #[.slice none 0 0] 27)) = we at *
      generalize wc.heap.size = N at *
      try simp only [List.getElem_toArray, List.getElem_cons_succ, List.getElem_cons_zero, Act.put, List.setIfInBounds_toArray, List.set_cons_zero, List.set_cons_succ]
      refine wpAnyH_ready (rs := [6]) (by kernel_rfl) (by simp) ?_
      refine AllReadyH.cons rfl (fun K hK => ?_) AllReadyH.nil
      go_simp
      refine Calls.mono (hWr.out _ (HM.out.grew hHeld)) ?_
      rintro e w4 ⟨gg, rfl, hr, g4⟩
      have HY := Lib.hid (hr.buf hok.out)
      clear hr
      refine hK.out _ _ (hHeld.trans g4) (fun hHeld => ?_)
      clear hK K
      replace KN := KN.grew g4
      clear g4
      generalize w4 = wd at *
      try simp only [List.getElem_toArray, List.getElem_cons_succ, List.getElem_cons_zero, Act.put, List.setIfInBounds_toArray, List.set_cons_zero, List.set_cons_succ]
      refine wpAnyH_take (i := 7) (v := ?_) rfl (by kernel_rfl) (by kernel_rfl) (by kernel_rfl) (fun _ _ _ h => h) (Or.inl ⟨by rfl, ?_⟩) hHeld ?_
      rotate_left
      · intro wq hSw
        replace hSw : Grew w1 wq := hSw
        go_simp
        try with_reducible rfl
      try simp only [List.getElem_toArray, List.getElem_cons_succ, List.getElem_cons_zero, Act.put, List.setIfInBounds_toArray, List.set_cons_zero, List.set_cons_succ]
      refine wpAnyH_take (i := 8) (v := ?_) rfl (by kernel_rfl) (by kernel_rfl) (by kernel_rfl) (fun _ _ _ h => h) (Or.inl ⟨by rfl, ?_⟩) hHeld ?_
      rotate_left
      · intro wq hSw
        replace hSw : Grew w1 wq := hSw
        go_simp
        try with_reducible rfl
      try simp only [List.getElem_toArray, List.getElem_cons_succ, List.getElem_cons_zero, Act.put, List.setIfInBounds_toArray, List.set_cons_zero, List.set_cons_succ]
      refine wpAnyH_take (i := 9) (v := ?_) rfl (by kernel_rfl) (by kernel_rfl) (by kernel_rfl) (fun _ _ _ h => h) (Or.inl ⟨by rfl, ?_⟩) hHeld ?_
      rotate_left
      · intro wq hSw
        replace hSw : Grew w1 wq := hSw
        go_simp
        try with_reducible rfl
      try simp only [List.getElem_toArray, List.getElem_cons_succ, List.getElem_cons_zero, Act.put, List.setIfInBounds_toArray, List.set_cons_zero, List.set_cons_succ]
      refine wpAnyH_ready (rs := [11]) (by kernel_rfl) (by simp) ?_
      refine AllReadyH.cons rfl (fun K hK => ?_) AllReadyH.nil
      have z0 := KN.cell 0
      have f0 := KN.free 0
      go_simp
      have KN1 := KN.set (o := 0) (.slice (some ⟨gg, 0, none⟩) xs.length xs.length)
      have HY1 := Lib.hid (HY.out.store KN (.slice (some ⟨gg, 0, none⟩) xs.length xs.length))
      refine hK.out _ _ (hHeld.setCell hN _) (fun hHeld => ?_)
      clear hK K
      clear z0 f0 KN HY
      generalize (wd.setCell ⟨N, 0, none⟩ (.slice (some ⟨gg, 0, none⟩) xs.length xs.length)) = wf at *
      replace KN1 : Blk wf N #[.slice (some ⟨gg, 0, none⟩) xs.length xs.length] 27 := KN1
      try simp only [List.getElem_toArray, List.getElem_cons_succ, List.getElem_cons_zero, Act.put, List.setIfInBounds_toArray, List.set_cons_zero, List.set_cons_succ]
      refine wpAnyH_take (i := 12) (v := ?_) rfl (by kernel_rfl) (by kernel_rfl) (by kernel_rfl) (fun _ _ _ h => h) (Or.inl ⟨by rfl, ?_⟩) hHeld ?_
      rotate_left
      · intro wq hSw
        replace hSw : Grew w1 wq := hSw
        go_simp
        try with_reducible rfl
      try simp only [List.getElem_toArray, List.getElem_cons_succ, List.getElem_cons_zero, Act.put, List.setIfInBounds_toArray, List.set_cons_zero, List.set_cons_succ]
      refine wpAnyH_done (by kernel_rfl) ?_ _
      try simp only [List.getElem_toArray, List.getElem_cons_succ, List.getElem_cons_zero, Act.put, List.setIfInBounds_toArray, List.set_cons_zero, List.set_cons_succ]
      have hB1 := hB.grew hHeld
      have kG1 := kG.grew hHeld
      have kR1 := kR.grew hHeld
      have g1 := g0.trans hHeld
      have hNR : N ≠ R := by have := kR.lt; omega
      have hNp : N ≠ p := by have := hB.lt; omega
      clear hB kG kR kM g0 hHeld HM
      go_upto_region 4 with fail
      have z0 := fun z : Over wf => hB1.rgO 4 (by decide) z
      have z1 := fun z : Over wf => hB1.rgO 5 (by decide) z
      have z2 := fun z : Over wf => kG1.overCell 1 (.int .i64 4) rfl z
      have z3 := fun z : Over wf => kG1.overCell 2 (.int .i64 5) rfl z
      refine region_over_tail 19 (by kernel_rfl) (by kernel_rfl) ?_
      simp only [List.take_succ_cons, List.take_zero, List.drop_succ_cons, List.drop_zero]
      repeat (first | go_big_quiet_step (fail) | quiet_step (fail))
      refine wpQuiet_nil ?_
      intro z
      have hB2 := hB1.over z
      have kR2 := kR1.over z
      have KN2 := KN1.over z
      have HY2 := Lib.hid (HY1.out.grew z.g)
      have g2 := g1.trans z.g
      clear z0 z1 z2 z3 hB1 kR1 KN1 HY1 g1
      generalize z.w = w6 at *
      have c0 := hB2.rgC 5 (by decide)
      have f0 := hB2.free 5
      go_upto_region 5 with fail
      have hB3 := hB2.rg (by decide : 5 < 15) ((c 5 + 1) % c 4)
      have o3 := Only.set w6 p 5 (.int .u32 ((c 5 + 1) % c 4))
      have HY3 := Lib.hid (HY2.out.only o3 hB2 (nb_rg c))
      clear c0 f0 hB2 HY2
      generalize (w6.setCell ⟨p, 5, none⟩ (.int .u32 ((c 5 + 1) % c 4))) = w7 at *
      have kR3 := kR2.only o3 (by omega)
      have KN3 := KN2.only o3 hNp
      have t3 : Trn p w w7 := (Trn.of_grew g2).trans o3.trn
      clear o3 g2 kR2 KN2
      have y0 := KN3.cell 0
      have y1 := kR3.cell 0
      have f1 := kR3.free 0
      go_wp2_with fail
      have hset := (kR3.set (o := 0) (.slice (some ⟨gg, 0, none⟩) xs.length xs.length)).cell 0
      have HY4 := Lib.hid (HY3.out.store kR3 (.slice (some ⟨gg, 0, none⟩) xs.length xs.length))
      have tz := t3.only (Only.set w7 R 0 (.slice (some ⟨gg, 0, none⟩) xs.length xs.length)) LR.out
      have hB4 := hB3.other (c := R) (o := 0) (by omega) (.slice (some ⟨gg, 0, none⟩) xs.length xs.length)
      exact bodyPost_ret (v := .agg #[.slice (some ⟨gg, 0, none⟩) xs.length xs.length]) (by simp [results, Try.results63, go_sem, hset]) rfl ⟨_, _, _, rfl, HY4, hB4, tz⟩
  · go_simp
    have hN := hHeld.size
    refine hK.out _ _ (hHeld.alloc _) (fun hHeld => ?_)
    clear hK K
    have KN : Blk (wq0.alloc (.cells #[.slice none 0 0] 27)) wq0.heap.size #[.slice none 0 0] 27 := Blk.new _ _ _ _ rfl
    generalize (wq0.alloc (.cells #[.slice none 0 0] 27)) = we at *
    generalize wq0.heap.size = N at *
    try simp only [List.getElem_toArray, List.getElem_cons_succ, List.getElem_cons_zero, Act.put, List.setIfInBounds_toArray, List.set_cons_zero, List.set_cons_succ]
    refine wpAnyH_ready (rs := [3]) (by kernel_rfl) (by simp) ?_
    refine AllReadyH.cons rfl (fun K hK => ?_) AllReadyH.nil
    go_simp
    refine Calls.mono (hPl.out _ (hB.grew hHeld)) ?_
    rintro e w3 ⟨rfl, g3⟩
    refine hK.out _ _ (hHeld.trans g3) (fun hHeld => ?_)
    clear hK K
    replace KN := KN.grew g3
    generalize w3 = wc at *
    try simp only [List.getElem_toArray, List.getElem_cons_succ, List.getElem_cons_zero, Act.put, List.setIfInBounds_toArray, List.set_cons_zero, List.set_cons_succ]
    refine wpAnyH_take (i := 4) (v := ?_) rfl (by kernel_rfl) (by kernel_rfl) (by kernel_rfl) (fun _ _ _ h => h) (Or.inl ⟨by rfl, ?_⟩) hHeld ?_
    rotate_left
    · intro wq hSw
      replace hSw : Grew w1 wq := hSw
      go_simp
      try with_reducible rfl
    try simp only [List.getElem_toArray, List.getElem_cons_succ, List.getElem_cons_zero, Act.put, List.setIfInBounds_toArray, List.set_cons_zero, List.set_cons_succ]
    refine wpAnyH_ready (rs := [6]) (by kernel_rfl) (by simp) ?_
    refine AllReadyH.cons rfl (fun K hK => ?_) AllReadyH.nil
    go_simp
    refine Calls.mono (hWr.out _ (HM.out.grew hHeld)) ?_
    rintro e w4 ⟨gg, rfl, hr, g4⟩
    have HY := Lib.hid (hr.buf hok.out)
    clear hr
    refine hK.out _ _ (hHeld.trans g4) (fun hHeld => ?_)
    clear hK K
    replace KN := KN.grew g4
    clear g4
    generalize w4 = wd at *
    try simp only [List.getElem_toArray, List.getElem_cons_succ, List.getElem_cons_zero, Act.put, List.setIfInBounds_toArray, List.set_cons_zero, List.set_cons_succ]
    refine wpAnyH_take (i := 7) (v := ?_) rfl (by kernel_rfl) (by kernel_rfl) (by kernel_rfl) (fun _ _ _ h => h) (Or.inl ⟨by rfl, ?_⟩) hHeld ?_
    rotate_left
    · intro wq hSw
      replace hSw : Grew w1 wq := hSw
      go_simp
      try with_reducible rfl
    try simp only [List.getElem_toArray, List.getElem_cons_succ, List.getElem_cons_zero, Act.put, List.setIfInBounds_toArray, List.set_cons_zero, List.set_cons_succ]
    refine wpAnyH_take (i := 8) (v := ?_) rfl (by kernel_rfl) (by kernel_rfl) (by kernel_rfl) (fun _ _ _ h => h) (Or.inl ⟨by rfl, ?_⟩) hHeld ?_
    rotate_left
    · intro wq hSw
      replace hSw : Grew w1 wq := hSw
      go_simp
      try with_reducible rfl
    try simp only [List.getElem_toArray, List.getElem_cons_succ, List.getElem_cons_zero, Act.put, List.setIfInBounds_toArray, List.set_cons_zero, List.set_cons_succ]
    refine wpAnyH_take (i := 9) (v := ?_) rfl (by kernel_rfl) (by kernel_rfl) (by kernel_rfl) (fun _ _ _ h => h) (Or.inl ⟨by rfl, ?_⟩) hHeld ?_
    rotate_left
    · intro wq hSw
      replace hSw : Grew w1 wq := hSw
      go_simp
      try with_reducible rfl
    try simp only [List.getElem_toArray, List.getElem_cons_succ, List.getElem_cons_zero, Act.put, List.setIfInBounds_toArray, List.set_cons_zero, List.set_cons_succ]
    refine wpAnyH_ready (rs := [11]) (by kernel_rfl) (by simp) ?_
    refine AllReadyH.cons rfl (fun K hK => ?_) AllReadyH.nil
    have z0 := KN.cell 0
    have f0 := KN.free 0
    go_simp
    have KN1 := KN.set (o := 0) (.slice (some ⟨gg, 0, none⟩) xs.length xs.length)
    have HY1 := Lib.hid (HY.out.store KN (.slice (some ⟨gg, 0, none⟩) xs.length xs.length))
    refine hK.out _ _ (hHeld.setCell hN _) (fun hHeld => ?_)
    clear hK K
    clear z0 f0 KN HY
    generalize (wd.setCell ⟨N, 0, none⟩ (.slice (some ⟨gg, 0, none⟩) xs.length xs.length)) = wf at *
    replace KN1 : Blk wf N #[.slice (some ⟨gg, 0, none⟩) xs.length xs.length] 27 := KN1
    try simp only [List.getElem_toArray, List.getElem_cons_succ, List.getElem_cons_zero, Act.put, List.setIfInBounds_toArray, List.set_cons_zero, List.set_cons_succ]
    refine wpAnyH_take (i := 12) (v := ?_) rfl (by kernel_rfl) (by kernel_rfl) (by kernel_rfl) (fun _ _ _ h => h) (Or.inl ⟨by rfl, ?_⟩) hHeld ?_
    rotate_left
    · intro wq hSw
      replace hSw : Grew w1 wq := hSw
      go_simp
      try with_reducible rfl
    try simp only [List.getElem_toArray, List.getElem_cons_succ, List.getElem_cons_zero, Act.put, List.setIfInBounds_toArray, List.set_cons_zero, List.set_cons_succ]
    refine wpAnyH_done (by kernel_rfl) ?_ _
    try simp only [List.getElem_toArray, List.getElem_cons_succ, List.getElem_cons_zero, Act.put, List.setIfInBounds_toArray, List.set_cons_zero, List.set_cons_succ]
    have hB1 := hB.grew hHeld
    have kG1 := kG.grew hHeld
    have kR1 := kR.grew hHeld
    have g1 := g0.trans hHeld
    have hNR : N ≠ R := by have := kR.lt; omega
    have hNp : N ≠ p := by have := hB.lt; omega
    clear hB kG kR kM g0 hHeld HM
    go_upto_region 4 with fail
    have z0 := fun z : Over wf => hB1.rgO 4 (by decide) z
    have z1 := fun z : Over wf => hB1.rgO 5 (by decide) z
    have z2 := fun z : Over wf => kG1.overCell 1 (.int .i64 4) rfl z
    have z3 := fun z : Over wf => kG1.overCell 2 (.int .i64 5) rfl z
    refine region_over_tail 19 (by kernel_rfl) (by kernel_rfl) ?_
    simp only [List.take_succ_cons, List.take_zero, List.drop_succ_cons, List.drop_zero]
    repeat (first | go_big_quiet_step (fail) | quiet_step (fail))
    refine wpQuiet_nil ?_
    intro z
    have hB2 := hB1.over z
    have kR2 := kR1.over z
    have KN2 := KN1.over z
    have HY2 := Lib.hid (HY1.out.grew z.g)
    have g2 := g1.trans z.g
    clear z0 z1 z2 z3 hB1 kR1 KN1 HY1 g1
    generalize z.w = w6 at *
    have c0 := hB2.rgC 5 (by decide)
    have f0 := hB2.free 5
    go_upto_region 5 with fail
    have hB3 := hB2.rg (by decide : 5 < 15) ((c 5 + 1) % c 4)
    have o3 := Only.set w6 p 5 (.int .u32 ((c 5 + 1) % c 4))
    have HY3 := Lib.hid (HY2.out.only o3 hB2 (nb_rg c))
    clear c0 f0 hB2 HY2
    generalize (w6.setCell ⟨p, 5, none⟩ (.int .u32 ((c 5 + 1) % c 4))) = w7 at *
    have kR3 := kR2.only o3 (by omega)
    have KN3 := KN2.only o3 hNp
    have t3 : Trn p w w7 := (Trn.of_grew g2).trans o3.trn
    clear o3 g2 kR2 KN2
    have y0 := KN3.cell 0
    have y1 := kR3.cell 0
    have f1 := kR3.free 0
    go_wp2_with fail
    have hset := (kR3.set (o := 0) (.slice (some ⟨gg, 0, none⟩) xs.length xs.length)).cell 0
    have HY4 := Lib.hid (HY3.out.store kR3 (.slice (some ⟨gg, 0, none⟩) xs.length xs.length))
    have tz := t3.only (Only.set w7 R 0 (.slice (some ⟨gg, 0, none⟩) xs.length xs.length)) LR.out
    have hB4 := hB3.other (c := R) (o := 0) (by omega) (.slice (some ⟨gg, 0, none⟩) xs.length xs.length)
    exact bodyPost_ret (v := .agg #[.slice (some ⟨gg, 0, none⟩) xs.length xs.length]) (by simp [results, Try.results63, go_sem, hset]) rfl ⟨_, _, _, rfl, HY4, hB4, tz⟩
set_option maxHeartbeats 2000000 in
theorem done_r {c : Nat → Int} {p : Nat} {w : World} {a : Option Addr} {n m : Nat} {xs ds : List Int} (st : Int) (hs0 : 0 ≤ st) (hs1 : st < 256) (hB : Blk w p (rgA c) 80) (hM : Buf w (.slice a n m) xs) (hl : xs.length ≤ 140737488355328) (hd : AreBytes ds) (hd16 : ds.length = 16) (h0 : 0 ≤ c 7) (h1 : c 7 < 4294967296) (h2 : 0 ≤ c 9) (h3 : c 9 < 64) (h4 : 1 ≤ c 8) (h5 : c 8 ≤ 64) (hb0 : 0 ≤ bothV ds st) (hb1 : bothV ds st < 18446744073709551616) :
    Calls Try.prog 63 #[.pointer (some ⟨p, 0, none⟩), .agg (rgVr), .agg #[.slice a n m], .agg (dsA ds), .int .u64 st] w fun e w' => ∃ a' n' m', e = .returned (.agg #[.slice a' n' m']) ∧ Hid (Buf w' (.slice a' n' m') (writeV xs (c 7 + 16 * c 9 + 10) 4 (bothV ds st))) ∧ Blk w' p (rgA (headr c)) 80 ∧ Trn p w w' := by
  have hPl := Lib.hid (fun (w : World) (h : Blk w p (rgA c) 80) => place_r h h0 h1 h2 h3)
  have hWr := Lib.hid (fun (w : World) (h : Buf w (.slice a n m) xs) => write_c (c 7 + 16 * c 9 + 10) 4 (bothV ds st) (by omega) (by omega) hb0 hb1 w h hl)
  have hPa := Lib.hid (part_10 hd hd16)
  have hq : IntKind.u32.wrap (c 9 + 1) = c 9 + 1 := u32_in (by omega)
  have hw1 : IntKind.u64.wrap (c 7 + 16 * c 9 + 10) = c 7 + 16 * c 9 + 10 := IntWalk.u64_in _ (by omega)
  have hsh : IntKind.u64.wrap (st * 65536) = st * 65536 := IntWalk.u64_in _ (by omega)
  have hbo : bits .or .u64 (bits .andNot .u64 (getV (cutL ds 10 12) false) 1) (st * 65536) = bothV ds st := rfl
  generalize getV (cutL ds 10 12) false = fl at *
  generalize bothV ds st = bo at *
  have hok := Lib.hid (writeV_ok (c 7 + 16 * c 9 + 10) 4 bo hM.ok)
  have hwl := Lib.hid (writeV_length xs (c 7 + 16 * c 9 + 10) 4 bo)
  generalize writeV xs (c 7 + 16 * c 9 + 10) 4 bo = ys at *
  have HM := Lib.hid hM
  have hp := hB.lt
  generalize c 7 + 16 * c 9 = at0 at *
  have H16 := Lib.hid hd16
  clear hM hl h0 h1 hb0 hb1 hd hd16 hs0 hs1
  go_enter Try.func63, Try.ntmps63
  go_upto_region 1 with fail
  have kG : Blk ((((w.alloc (.cells rgVr 82)).alloc (.cells #[.slice a n m] 27)).alloc (.cells (dsA ds) 86)).alloc (.cells #[.slice none 0 0] 27)) w.heap.size rgVr 82 := (((Blk.new w rgVr 82 _ rfl).alloc (.cells #[.slice a n m] 27)).alloc (.cells (dsA ds) 86)).alloc (.cells #[.slice none 0 0] 27)
  have kM : Blk ((((w.alloc (.cells rgVr 82)).alloc (.cells #[.slice a n m] 27)).alloc (.cells (dsA ds) 86)).alloc (.cells #[.slice none 0 0] 27)) (w.heap.size + 1) #[.slice a n m] 27 := ((Blk.new (w.alloc (.cells rgVr 82)) #[.slice a n m] 27 _ (by simp)).alloc (.cells (dsA ds) 86)).alloc (.cells #[.slice none 0 0] 27)
  have kD : Blk ((((w.alloc (.cells rgVr 82)).alloc (.cells #[.slice a n m] 27)).alloc (.cells (dsA ds) 86)).alloc (.cells #[.slice none 0 0] 27)) (w.heap.size + 2) (dsA ds) 86 := (Blk.new ((w.alloc (.cells rgVr 82)).alloc (.cells #[.slice a n m] 27)) (dsA ds) 86 _ (by simp)).alloc (.cells #[.slice none 0 0] 27)
  have kR : Blk ((((w.alloc (.cells rgVr 82)).alloc (.cells #[.slice a n m] 27)).alloc (.cells (dsA ds) 86)).alloc (.cells #[.slice none 0 0] 27)) (w.heap.size + 3) #[.slice none 0 0] 27 := Blk.new (((w.alloc (.cells rgVr 82)).alloc (.cells #[.slice a n m] 27)).alloc (.cells (dsA ds) 86)) #[.slice none 0 0] 27 _ (by simp)
  have g0 : Grew w ((((w.alloc (.cells rgVr 82)).alloc (.cells #[.slice a n m] 27)).alloc (.cells (dsA ds) 86)).alloc (.cells #[.slice none 0 0] 27)) := ((((Grew.refl w).alloc (.cells rgVr 82)).alloc (.cells #[.slice a n m] 27)).alloc (.cells (dsA ds) 86)).alloc (.cells #[.slice none 0 0] 27)
  replace hB := ((((hB).alloc (.cells rgVr 82)).alloc (.cells #[.slice a n m] 27)).alloc (.cells (dsA ds) 86)).alloc (.cells #[.slice none 0 0] 27)
  generalize ((((w.alloc (.cells rgVr 82)).alloc (.cells #[.slice a n m] 27)).alloc (.cells (dsA ds) 86)).alloc (.cells #[.slice none 0 0] 27)) = w0 at *
  have lG : w.heap.size ≤ w.heap.size := by omega
  have lM : w.heap.size ≤ (w.heap.size + 1) := by omega
  have lD : w.heap.size ≤ (w.heap.size + 2) := by omega
  have lR : w.heap.size ≤ (w.heap.size + 3) := by omega
  have nGM : w.heap.size ≠ (w.heap.size + 1) := by omega
  have nGD : w.heap.size ≠ (w.heap.size + 2) := by omega
  have nGR : w.heap.size ≠ (w.heap.size + 3) := by omega
  have nMG : (w.heap.size + 1) ≠ w.heap.size := by omega
  have nMD : (w.heap.size + 1) ≠ (w.heap.size + 2) := by omega
  have nMR : (w.heap.size + 1) ≠ (w.heap.size + 3) := by omega
  have nDG : (w.heap.size + 2) ≠ w.heap.size := by omega
  have nDM : (w.heap.size + 2) ≠ (w.heap.size + 1) := by omega
  have nDR : (w.heap.size + 2) ≠ (w.heap.size + 3) := by omega
  have nRG : (w.heap.size + 3) ≠ w.heap.size := by omega
  have nRM : (w.heap.size + 3) ≠ (w.heap.size + 1) := by omega
  have nRD : (w.heap.size + 3) ≠ (w.heap.size + 2) := by omega
  generalize (w.heap.size + 3) = R at *
  generalize (w.heap.size + 2) = D at *
  generalize (w.heap.size + 1) = M at *
  generalize hZ : w.heap.size = G at *
  have HZ := Lib.hid hZ
  clear hZ
  have LG : Hid (w.heap.size ≤ G) := Lib.hid (by rw [HZ.out]; exact lG)
  have LM : Hid (w.heap.size ≤ M) := Lib.hid (by rw [HZ.out]; exact lM)
  have LD : Hid (w.heap.size ≤ D) := Lib.hid (by rw [HZ.out]; exact lD)
  have LR : Hid (w.heap.size ≤ R) := Lib.hid (by rw [HZ.out]; exact lR)
  have hpG : p < G := hp
  replace HM := Lib.hid (HM.out.grew g0)
  go_wp2_with (refine ld_ds rfl (.tmp 8) rfl _ rfl H16.out kD (by rfl) ?_)
  refine (hPa.out _).mono ?_
  rintro e w1 ⟨rfl, g1⟩
  replace hB := hB.grew g1
  replace kG := kG.grew g1
  replace kM := kM.grew g1
  replace kR := kR.grew g1
  replace HM := Lib.hid (HM.out.grew g1)
  replace g0 := g0.trans g1
  clear kD g1
  go_upto_region 3 with fail
  refine wp_region_held_drew (S := fun w' => Grew w1 w') (by kernel_rfl) ((Grew.refl w1).drew1) (fun hHeld => ?_)
  replace hHeld : Grew w1 w1.drew := hHeld
  generalize w1.drew = wq0 at *
  refine wpAnyH_take (i := 0) (v := ?_) rfl (by kernel_rfl) (by kernel_rfl) (by kernel_rfl) (fun _ _ _ h => h) (Or.inl ⟨by rfl, ?_⟩) hHeld ?_
  rotate_left
  · intro wq hSw
    replace hSw : Grew w1 wq := hSw
    have y0 := (kM.grew hSw).cell 0
    go_simp
    try with_reducible rfl
  try simp only [List.getElem_toArray, List.getElem_cons_succ, List.getElem_cons_zero, Act.put, List.setIfInBounds_toArray, List.set_cons_zero, List.set_cons_succ]
  refine wpAnyH_take (i := 1) (v := ?_) rfl (by kernel_rfl) (by kernel_rfl) (by kernel_rfl) (fun _ _ _ h => h) (Or.inl ⟨by rfl, ?_⟩) hHeld ?_
  rotate_left
  · intro wq hSw
    replace hSw : Grew w1 wq := hSw
    go_simp
    try with_reducible rfl
  try simp only [List.getElem_toArray, List.getElem_cons_succ, List.getElem_cons_zero, Act.put, List.setIfInBounds_toArray, List.set_cons_zero, List.set_cons_succ]
  refine wpAnyH_take (i := 2) (v := ?_) rfl (by kernel_rfl) (by kernel_rfl) (by kernel_rfl) (fun _ _ _ h => h) (Or.inl ⟨by rfl, ?_⟩) hHeld ?_
  rotate_left
  · intro wq hSw
    replace hSw : Grew w1 wq := hSw
    have y0 : wq.cell? ⟨G, 0, none⟩ = some (.int .i64 7) := (kG.grew hSw).cell 0
    have y1 : wq.cell? ⟨G, 1, none⟩ = some (.int .i64 8) := (kG.grew hSw).cell 1
    have y2 : wq.cell? ⟨G, 2, none⟩ = some (.int .i64 9) := (kG.grew hSw).cell 2
    have y3 : wq.cell? ⟨G, 3, none⟩ = some (.int .i64 10) := (kG.grew hSw).cell 3
    have y4 : wq.cell? ⟨G, 4, none⟩ = some (.int .u32 2) := (kG.grew hSw).cell 4
    go_simp
    try with_reducible rfl
  try simp only [List.getElem_toArray, List.getElem_cons_succ, List.getElem_cons_zero, Act.put, List.setIfInBounds_toArray, List.set_cons_zero, List.set_cons_succ]
  refine wpAnyH_take (i := 5) (v := ?_) rfl (by kernel_rfl) (by kernel_rfl) (by kernel_rfl) (fun _ _ _ h => h) (Or.inl ⟨by rfl, ?_⟩) hHeld ?_
  rotate_left
  · intro wq hSw
    replace hSw : Grew w1 wq := hSw
    go_simp
    try with_reducible rfl
  try simp only [List.getElem_toArray, List.getElem_cons_succ, List.getElem_cons_zero, Act.put, List.setIfInBounds_toArray, List.set_cons_zero, List.set_cons_succ]
  refine wpAnyH_ready (rs := [3, 10]) (by kernel_rfl) (by simp) ?_
  refine AllReadyH.cons rfl (fun K hK => ?_) (AllReadyH.cons rfl (fun K hK => ?_) AllReadyH.nil)
  · go_simp
    refine Calls.mono (hPl.out _ (hB.grew hHeld)) ?_
    rintro e w3 ⟨rfl, g3⟩
    refine hK.out _ _ (hHeld.trans g3) (fun hHeld => ?_)
    clear hK K
    generalize w3 = wc at *
    try simp only [List.getElem_toArray, List.getElem_cons_succ, List.getElem_cons_zero, Act.put, List.setIfInBounds_toArray, List.set_cons_zero, List.set_cons_succ]
    refine wpAnyH_take (i := 4) (v := ?_) rfl (by kernel_rfl) (by kernel_rfl) (by kernel_rfl) (fun _ _ _ h => h) (Or.inl ⟨by rfl, ?_⟩) hHeld ?_
    rotate_left
    · intro wq hSw
      replace hSw : Grew w1 wq := hSw
      go_simp
      try with_reducible rfl
    try simp only [List.getElem_toArray, List.getElem_cons_succ, List.getElem_cons_zero, Act.put, List.setIfInBounds_toArray, List.set_cons_zero, List.set_cons_succ]
    refine wpAnyH_ready (rs := [6, 10]) (by kernel_rfl) (by simp) ?_
    refine AllReadyH.cons rfl (fun K hK => ?_) (AllReadyH.cons rfl (fun K hK => ?_) AllReadyH.nil)
    · go_simp
      refine Calls.mono (hWr.out _ (HM.out.grew hHeld)) ?_
      rintro e w4 ⟨gg, rfl, hr, g4⟩
      have HY := Lib.hid (hr.buf hok.out)
      clear hr
      refine hK.out _ _ (hHeld.trans g4) (fun hHeld => ?_)
      clear hK K
      clear g4
      generalize w4 = wd at *
      try simp only [List.getElem_toArray, List.getElem_cons_succ, List.getElem_cons_zero, Act.put, List.setIfInBounds_toArray, List.set_cons_zero, List.set_cons_succ]
      refine wpAnyH_take (i := 7) (v := ?_) rfl (by kernel_rfl) (by kernel_rfl) (by kernel_rfl) (fun _ _ _ h => h) (Or.inl ⟨by rfl, ?_⟩) hHeld ?_
      rotate_left
      · intro wq hSw
        replace hSw : Grew w1 wq := hSw
        go_simp
        try with_reducible rfl
      try simp only [List.getElem_toArray, List.getElem_cons_succ, List.getElem_cons_zero, Act.put, List.setIfInBounds_toArray, List.set_cons_zero, List.set_cons_succ]
      refine wpAnyH_take (i := 8) (v := ?_) rfl (by kernel_rfl) (by kernel_rfl) (by kernel_rfl) (fun _ _ _ h => h) (Or.inl ⟨by rfl, ?_⟩) hHeld ?_
      rotate_left
      · intro wq hSw
        replace hSw : Grew w1 wq := hSw
        go_simp
        try with_reducible rfl
      try simp only [List.getElem_toArray, List.getElem_cons_succ, List.getElem_cons_zero, Act.put, List.setIfInBounds_toArray, List.set_cons_zero, List.set_cons_succ]
      refine wpAnyH_take (i := 9) (v := ?_) rfl (by kernel_rfl) (by kernel_rfl) (by kernel_rfl) (fun _ _ _ h => h) (Or.inl ⟨by rfl, ?_⟩) hHeld ?_
      rotate_left
      · intro wq hSw
        replace hSw : Grew w1 wq := hSw
        go_simp
        try with_reducible rfl
      try simp only [List.getElem_toArray, List.getElem_cons_succ, List.getElem_cons_zero, Act.put, List.setIfInBounds_toArray, List.set_cons_zero, List.set_cons_succ]
      refine wpAnyH_ready (rs := [10]) (by kernel_rfl) (by simp) ?_
      refine AllReadyH.cons rfl (fun K hK => ?_) AllReadyH.nil
      go_simp
      have hN := hHeld.size
      refine hK.out _ _ (hHeld.alloc _) (fun hHeld => ?_)
      clear hK K
      have KN : Blk (wd.alloc (.cells #[.slice none 0 0] 27)) wd.heap.size #[.slice none 0 0] 27 := Blk.new _ _ _ _ rfl
      replace HY := Lib.hid (HY.out.grew ((Grew.refl wd).alloc (.cells #[.slice none 0 0] 27)))
      generalize (wd.alloc (.cells #[.slice none 0 0] 27)) = we at *
      generalize wd.heap.size = N at *
      try simp only [List.getElem_toArray, List.getElem_cons_succ, List.getElem_cons_zero, Act.put, List.setIfInBounds_toArray, List.set_cons_zero, List.set_cons_succ]
      refine wpAnyH_ready (rs := [11]) (by kernel_rfl) (by simp) ?_
      refine AllReadyH.cons rfl (fun K hK => ?_) AllReadyH.nil
      have z0 := KN.cell 0
      have f0 := KN.free 0
      go_simp
      have KN1 := KN.set (o := 0) (.slice (some ⟨gg, 0, none⟩) xs.length xs.length)
      have HY1 := Lib.hid (HY.out.store KN (.slice (some ⟨gg, 0, none⟩) xs.length xs.length))
      refine hK.out _ _ (hHeld.setCell hN _) (fun hHeld => ?_)
      clear hK K
      clear z0 f0 KN HY
      generalize (we.setCell ⟨N, 0, none⟩ (.slice (some ⟨gg, 0, none⟩) xs.length xs.length)) = wf at *
      replace KN1 : Blk wf N #[.slice (some ⟨gg, 0, none⟩) xs.length xs.length] 27 := KN1
      try simp only [List.getElem_toArray, List.getElem_cons_succ, List.getElem_cons_zero, Act.put, List.setIfInBounds_toArray, List.set_cons_zero, List.set_cons_succ]
      refine wpAnyH_take (i := 12) (v := ?_) rfl (by kernel_rfl) (by kernel_rfl) (by kernel_rfl) (fun _ _ _ h => h) (Or.inl ⟨by rfl, ?_⟩) hHeld ?_
      rotate_left
      · intro wq hSw
        replace hSw : Grew w1 wq := hSw
        go_simp
        try with_reducible rfl
      try simp only [List.getElem_toArray, List.getElem_cons_succ, List.getElem_cons_zero, Act.put, List.setIfInBounds_toArray, List.set_cons_zero, List.set_cons_succ]
      refine wpAnyH_done (by kernel_rfl) ?_ _
      try simp only [List.getElem_toArray, List.getElem_cons_succ, List.getElem_cons_zero, Act.put, List.setIfInBounds_toArray, List.set_cons_zero, List.set_cons_succ]
      have hB1 := hB.grew hHeld
      have kG1 := kG.grew hHeld
      have kR1 := kR.grew hHeld
      have g1 := g0.trans hHeld
      have hNR : N ≠ R := by have := kR.lt; omega
      have hNp : N ≠ p := by have := hB.lt; omega
      clear hB kG kR kM g0 hHeld HM
      go_upto_region 4 with fail
      have z0 := fun z : Over wf => hB1.rgO 8 (by decide) z
      have z1 := fun z : Over wf => hB1.rgO 9 (by decide) z
      have z2 := fun z : Over wf => kG1.overCell 1 (.int .i64 8) rfl z
      have z3 := fun z : Over wf => kG1.overCell 2 (.int .i64 9) rfl z
      refine region_over_tail 19 (by kernel_rfl) (by kernel_rfl) ?_
      simp only [List.take_succ_cons, List.take_zero, List.drop_succ_cons, List.drop_zero]
      repeat (first | go_big_quiet_step (fail) | quiet_step (fail))
      refine wpQuiet_nil ?_
      intro z
      have hB2 := hB1.over z
      have kR2 := kR1.over z
      have KN2 := KN1.over z
      have HY2 := Lib.hid (HY1.out.grew z.g)
      have g2 := g1.trans z.g
      clear z0 z1 z2 z3 hB1 kR1 KN1 HY1 g1
      generalize z.w = w6 at *
      have c0 := hB2.rgC 9 (by decide)
      have f0 := hB2.free 9
      go_upto_region 5 with fail
      have hB3 := hB2.rg (by decide : 9 < 15) ((c 9 + 1) % c 8)
      have o3 := Only.set w6 p 9 (.int .u32 ((c 9 + 1) % c 8))
      have HY3 := Lib.hid (HY2.out.only o3 hB2 (nb_rg c))
      clear c0 f0 hB2 HY2
      generalize (w6.setCell ⟨p, 9, none⟩ (.int .u32 ((c 9 + 1) % c 8))) = w7 at *
      have kR3 := kR2.only o3 (by omega)
      have KN3 := KN2.only o3 hNp
      have t3 : Trn p w w7 := (Trn.of_grew g2).trans o3.trn
      clear o3 g2 kR2 KN2
      have y0 := KN3.cell 0
      have y1 := kR3.cell 0
      have f1 := kR3.free 0
      go_wp2_with fail
      have hset := (kR3.set (o := 0) (.slice (some ⟨gg, 0, none⟩) xs.length xs.length)).cell 0
      have HY4 := Lib.hid (HY3.out.store kR3 (.slice (some ⟨gg, 0, none⟩) xs.length xs.length))
      have tz := t3.only (Only.set w7 R 0 (.slice (some ⟨gg, 0, none⟩) xs.length xs.length)) LR.out
      have hB4 := hB3.other (c := R) (o := 0) (by omega) (.slice (some ⟨gg, 0, none⟩) xs.length xs.length)
      exact bodyPost_ret (v := .agg #[.slice (some ⟨gg, 0, none⟩) xs.length xs.length]) (by simp [results, Try.results63, go_sem, hset]) rfl ⟨_, _, _, rfl, HY4, hB4, tz⟩
    · go_simp
      have hN := hHeld.size
      refine hK.out _ _ (hHeld.alloc _) (fun hHeld => ?_)
      clear hK K
      have KN : Blk (wc.alloc (.cells #[.slice none 0 0] 27)) wc.heap.size #[.slice none 0 0] 27 := Blk.new _ _ _ _ rfl
      generalize (wc.alloc (.cells #[.slice none 0 0] 27)) = we at *
      generalize wc.heap.size = N at *
      try simp only [List.getElem_toArray, List.getElem_cons_succ, List.getElem_cons_zero, Act.put, List.setIfInBounds_toArray, List.set_cons_zero, List.set_cons_succ]
      refine wpAnyH_ready (rs := [6]) (by kernel_rfl) (by simp) ?_
      refine AllReadyH.cons rfl (fun K hK => ?_) AllReadyH.nil
      go_simp
      refine Calls.mono (hWr.out _ (HM.out.grew hHeld)) ?_
      rintro e w4 ⟨gg, rfl, hr, g4⟩
      have HY := Lib.hid (hr.buf hok.out)
      clear hr
      refine hK.out _ _ (hHeld.trans g4) (fun hHeld => ?_)
      clear hK K
      replace KN := KN.grew g4
      clear g4
      generalize w4 = wd at *
      try simp only [List.getElem_toArray, List.getElem_cons_succ, List.getElem_cons_zero, Act.put, List.setIfInBounds_toArray, List.set_cons_zero, List.set_cons_succ]
      refine wpAnyH_take (i := 7) (v := ?_) rfl (by kernel_rfl) (by kernel_rfl) (by kernel_rfl) (fun _ _ _ h => h) (Or.inl ⟨by rfl, ?_⟩) hHeld ?_
      rotate_left
      · intro wq hSw
        replace hSw : Grew w1 wq := hSw
        go_simp
        try with_reducible rfl
      try simp only [List.getElem_toArray, List.getElem_cons_succ, List.getElem_cons_zero, Act.put, List.setIfInBounds_toArray, List.set_cons_zero, List.set_cons_succ]
      refine wpAnyH_take (i := 8) (v := ?_) rfl (by kernel_rfl) (by kernel_rfl) (by kernel_rfl) (fun _ _ _ h => h) (Or.inl ⟨by rfl, ?_⟩) hHeld ?_
      rotate_left
      · intro wq hSw
        replace hSw : Grew w1 wq := hSw
        go_simp
        try with_reducible rfl
      try simp only [List.getElem_toArray, List.getElem_cons_succ, List.getElem_cons_zero, Act.put, List.setIfInBounds_toArray, List.set_cons_zero, List.set_cons_succ]
      refine wpAnyH_take (i := 9) (v := ?_) rfl (by kernel_rfl) (by kernel_rfl) (by kernel_rfl) (fun _ _ _ h => h) (Or.inl ⟨by rfl, ?_⟩) hHeld ?_
      rotate_left
      · intro wq hSw
        replace hSw : Grew w1 wq := hSw
        go_simp
        try with_reducible rfl
      try simp only [List.getElem_toArray, List.getElem_cons_succ, List.getElem_cons_zero, Act.put, List.setIfInBounds_toArray, List.set_cons_zero, List.set_cons_succ]
      refine wpAnyH_ready (rs := [11]) (by kernel_rfl) (by simp) ?_
      refine AllReadyH.cons rfl (fun K hK => ?_) AllReadyH.nil
      have z0 := KN.cell 0
      have f0 := KN.free 0
      go_simp
      have KN1 := KN.set (o := 0) (.slice (some ⟨gg, 0, none⟩) xs.length xs.length)
      have HY1 := Lib.hid (HY.out.store KN (.slice (some ⟨gg, 0, none⟩) xs.length xs.length))
      refine hK.out _ _ (hHeld.setCell hN _) (fun hHeld => ?_)
      clear hK K
      clear z0 f0 KN HY
      generalize (wd.setCell ⟨N, 0, none⟩ (.slice (some ⟨gg, 0, none⟩) xs.length xs.length)) = wf at *
      replace KN1 : Blk wf N #[.slice (some ⟨gg, 0, none⟩) xs.length xs.length] 27 := KN1
      try simp only [List.getElem_toArray, List.getElem_cons_succ, List.getElem_cons_zero, Act.put, List.setIfInBounds_toArray, List.set_cons_zero, List.set_cons_succ]
      refine wpAnyH_take (i := 12) (v := ?_) rfl (by kernel_rfl) (by kernel_rfl) (by kernel_rfl) (fun _ _ _ h => h) (Or.inl ⟨by rfl, ?_⟩) hHeld ?_
      rotate_left
      · intro wq hSw
        replace hSw : Grew w1 wq := hSw
        go_simp
        try with_reducible rfl
      try simp only [List.getElem_toArray, List.getElem_cons_succ, List.getElem_cons_zero, Act.put, List.setIfInBounds_toArray, List.set_cons_zero, List.set_cons_succ]
      refine wpAnyH_done (by kernel_rfl) ?_ _
      try simp only [List.getElem_toArray, List.getElem_cons_succ, List.getElem_cons_zero, Act.put, List.setIfInBounds_toArray, List.set_cons_zero, List.set_cons_succ]
      have hB1 := hB.grew hHeld
      have kG1 := kG.grew hHeld
      have kR1 := kR.grew hHeld
      have g1 := g0.trans hHeld
      have hNR : N ≠ R := by have := kR.lt; omega
      have hNp : N ≠ p := by have := hB.lt; omega
      clear hB kG kR kM g0 hHeld HM
      go_upto_region 4 with fail
      have z0 := fun z : Over wf => hB1.rgO 8 (by decide) z
      have z1 := fun z : Over wf => hB1.rgO 9 (by decide) z
      have z2 := fun z : Over wf => kG1.overCell 1 (.int .i64 8) rfl z
      have z3 := fun z : Over wf => kG1.overCell 2 (.int .i64 9) rfl z
      refine region_over_tail 19 (by kernel_rfl) (by kernel_rfl) ?_
      simp only [List.take_succ_cons, List.take_zero, List.drop_succ_cons, List.drop_zero]
      repeat (first | go_big_quiet_step (fail) | quiet_step (fail))
      refine wpQuiet_nil ?_
      intro z
      have hB2 := hB1.over z
      have kR2 := kR1.over z
      have KN2 := KN1.over z
      have HY2 := Lib.hid (HY1.out.grew z.g)
      have g2 := g1.trans z.g
      clear z0 z1 z2 z3 hB1 kR1 KN1 HY1 g1
      generalize z.w = w6 at *
      have c0 := hB2.rgC 9 (by decide)
      have f0 := hB2.free 9
      go_upto_region 5 with fail
      have hB3 := hB2.rg (by decide : 9 < 15) ((c 9 + 1) % c 8)
      have o3 := Only.set w6 p 9 (.int .u32 ((c 9 + 1) % c 8))
      have HY3 := Lib.hid (HY2.out.only o3 hB2 (nb_rg c))
      clear c0 f0 hB2 HY2
      generalize (w6.setCell ⟨p, 9, none⟩ (.int .u32 ((c 9 + 1) % c 8))) = w7 at *
      have kR3 := kR2.only o3 (by omega)
      have KN3 := KN2.only o3 hNp
      have t3 : Trn p w w7 := (Trn.of_grew g2).trans o3.trn
      clear o3 g2 kR2 KN2
      have y0 := KN3.cell 0
      have y1 := kR3.cell 0
      have f1 := kR3.free 0
      go_wp2_with fail
      have hset := (kR3.set (o := 0) (.slice (some ⟨gg, 0, none⟩) xs.length xs.length)).cell 0
      have HY4 := Lib.hid (HY3.out.store kR3 (.slice (some ⟨gg, 0, none⟩) xs.length xs.length))
      have tz := t3.only (Only.set w7 R 0 (.slice (some ⟨gg, 0, none⟩) xs.length xs.length)) LR.out
      have hB4 := hB3.other (c := R) (o := 0) (by omega) (.slice (some ⟨gg, 0, none⟩) xs.length xs.length)
      exact bodyPost_ret (v := .agg #[.slice (some ⟨gg, 0, none⟩) xs.length xs.length]) (by simp [results, Try.results63, go_sem, hset]) rfl ⟨_, _, _, rfl, HY4, hB4, tz⟩
  · go_simp
    have hN := hHeld.size
    refine hK.out _ _ (hHeld.alloc _) (fun hHeld => ?_)
    clear hK K
    have KN : Blk (wq0.alloc (.cells #[.slice none 0 0] 27)) wq0.heap.size #[.slice none 0 0] 27 := Blk.new _ _ _ _ rfl
    generalize (wq0.alloc (.cells #[.slice none 0 0] 27)) = we at *
    generalize wq0.heap.size = N at *
    try simp only [List.getElem_toArray, List.getElem_cons_succ, List.getElem_cons_zero, Act.put, List.setIfInBounds_toArray, List.set_cons_zero, List.set_cons_succ]
    refine wpAnyH_ready (rs := [3]) (by kernel_rfl) (by simp) ?_
    refine AllReadyH.cons rfl (fun K hK => ?_) AllReadyH.nil
    go_simp
    refine Calls.mono (hPl.out _ (hB.grew hHeld)) ?_
    rintro e w3 ⟨rfl, g3⟩
    refine hK.out _ _ (hHeld.trans g3) (fun hHeld => ?_)
    clear hK K
    replace KN := KN.grew g3
    generalize w3 = wc at *
    try simp only [List.getElem_toArray, List.getElem_cons_succ, List.getElem_cons_zero, Act.put, List.setIfInBounds_toArray, List.set_cons_zero, List.set_cons_succ]
    refine wpAnyH_take (i := 4) (v := ?_) rfl (by kernel_rfl) (by kernel_rfl) (by kernel_rfl) (fun _ _ _ h => h) (Or.inl ⟨by rfl, ?_⟩) hHeld ?_
    rotate_left
    · intro wq hSw
      replace hSw : Grew w1 wq := hSw
      go_simp
      try with_reducible rfl
    try simp only [List.getElem_toArray, List.getElem_cons_succ, List.getElem_cons_zero, Act.put, List.setIfInBounds_toArray, List.set_cons_zero, List.set_cons_succ]
    refine wpAnyH_ready (rs := [6]) (by kernel_rfl) (by simp) ?_
    refine AllReadyH.cons rfl (fun K hK => ?_) AllReadyH.nil
    go_simp
    refine Calls.mono (hWr.out _ (HM.out.grew hHeld)) ?_
    rintro e w4 ⟨gg, rfl, hr, g4⟩
    have HY := Lib.hid (hr.buf hok.out)
    clear hr
    refine hK.out _ _ (hHeld.trans g4) (fun hHeld => ?_)
    clear hK K
    replace KN := KN.grew g4
    clear g4
    generalize w4 = wd at *
    try simp only [List.getElem_toArray, List.getElem_cons_succ, List.getElem_cons_zero, Act.put, List.setIfInBounds_toArray, List.set_cons_zero, List.set_cons_succ]
    refine wpAnyH_take (i := 7) (v := ?_) rfl (by kernel_rfl) (by kernel_rfl) (by kernel_rfl) (fun _ _ _ h => h) (Or.inl ⟨by rfl, ?_⟩) hHeld ?_
    rotate_left
    · intro wq hSw
      replace hSw : Grew w1 wq := hSw
      go_simp
      try with_reducible rfl
    try simp only [List.getElem_toArray, List.getElem_cons_succ, List.getElem_cons_zero, Act.put, List.setIfInBounds_toArray, List.set_cons_zero, List.set_cons_succ]
    refine wpAnyH_take (i := 8) (v := ?_) rfl (by kernel_rfl) (by kernel_rfl) (by kernel_rfl) (fun _ _ _ h => h) (Or.inl ⟨by rfl, ?_⟩) hHeld ?_
    rotate_left
    · intro wq hSw
      replace hSw : Grew w1 wq := hSw
      go_simp
      try with_reducible rfl
    try simp only [List.getElem_toArray, List.getElem_cons_succ, List.getElem_cons_zero, Act.put, List.setIfInBounds_toArray, List.set_cons_zero, List.set_cons_succ]
    refine wpAnyH_take (i := 9) (v := ?_) rfl (by kernel_rfl) (by kernel_rfl) (by kernel_rfl) (fun _ _ _ h => h) (Or.inl ⟨by rfl, ?_⟩) hHeld ?_
    rotate_left
    · intro wq hSw
      replace hSw : Grew w1 wq := hSw
      go_simp
      try with_reducible rfl
    try simp only [List.getElem_toArray, List.getElem_cons_succ, List.getElem_cons_zero, Act.put, List.setIfInBounds_toArray, List.set_cons_zero, List.set_cons_succ]
    refine wpAnyH_ready (rs := [11]) (by kernel_rfl) (by simp) ?_
    refine AllReadyH.cons rfl (fun K hK => ?_) AllReadyH.nil
    have z0 := KN.cell 0
    have f0 := KN.free 0
    go_simp
    have KN1 := KN.set (o := 0) (.slice (some ⟨gg, 0, none⟩) xs.length xs.length)
    have HY1 := Lib.hid (HY.out.store KN (.slice (some ⟨gg, 0, none⟩) xs.length xs.length))
    refine hK.out _ _ (hHeld.setCell hN _) (fun hHeld => ?_)
    clear hK K
    clear z0 f0 KN HY
    generalize (wd.setCell ⟨N, 0, none⟩ (.slice (some ⟨gg, 0, none⟩) xs.length xs.length)) = wf at *
    replace KN1 : Blk wf N #[.slice (some ⟨gg, 0, none⟩) xs.length xs.length] 27 := KN1
    try simp only [List.getElem_toArray, List.getElem_cons_succ, List.getElem_cons_zero, Act.put, List.setIfInBounds_toArray, List.set_cons_zero, List.set_cons_succ]
    refine wpAnyH_take (i := 12) (v := ?_) rfl (by kernel_rfl) (by kernel_rfl) (by kernel_rfl) (fun _ _ _ h => h) (Or.inl ⟨by rfl, ?_⟩) hHeld ?_
    rotate_left
    · intro wq hSw
      replace hSw : Grew w1 wq := hSw
      go_simp
      try with_reducible rfl
    try simp only [List.getElem_toArray, List.getElem_cons_succ, List.getElem_cons_zero, Act.put, List.setIfInBounds_toArray, List.set_cons_zero, List.set_cons_succ]
    refine wpAnyH_done (by kernel_rfl) ?_ _
    try simp only [List.getElem_toArray, List.getElem_cons_succ, List.getElem_cons_zero, Act.put, List.setIfInBounds_toArray, List.set_cons_zero, List.set_cons_succ]
    have hB1 := hB.grew hHeld
    have kG1 := kG.grew hHeld
    have kR1 := kR.grew hHeld
    have g1 := g0.trans hHeld
    have hNR : N ≠ R := by have := kR.lt; omega
    have hNp : N ≠ p := by have := hB.lt; omega
    clear hB kG kR kM g0 hHeld HM
    go_upto_region 4 with fail
    have z0 := fun z : Over wf => hB1.rgO 8 (by decide) z
    have z1 := fun z : Over wf => hB1.rgO 9 (by decide) z
    have z2 := fun z : Over wf => kG1.overCell 1 (.int .i64 8) rfl z
    have z3 := fun z : Over wf => kG1.overCell 2 (.int .i64 9) rfl z
    refine region_over_tail 19 (by kernel_rfl) (by kernel_rfl) ?_
    simp only [List.take_succ_cons, List.take_zero, List.drop_succ_cons, List.drop_zero]
    repeat (first | go_big_quiet_step (fail) | quiet_step (fail))
    refine wpQuiet_nil ?_
    intro z
    have hB2 := hB1.over z
    have kR2 := kR1.over z
    have KN2 := KN1.over z
    have HY2 := Lib.hid (HY1.out.grew z.g)
    have g2 := g1.trans z.g
    clear z0 z1 z2 z3 hB1 kR1 KN1 HY1 g1
    generalize z.w = w6 at *
    have c0 := hB2.rgC 9 (by decide)
    have f0 := hB2.free 9
    go_upto_region 5 with fail
    have hB3 := hB2.rg (by decide : 9 < 15) ((c 9 + 1) % c 8)
    have o3 := Only.set w6 p 9 (.int .u32 ((c 9 + 1) % c 8))
    have HY3 := Lib.hid (HY2.out.only o3 hB2 (nb_rg c))
    clear c0 f0 hB2 HY2
    generalize (w6.setCell ⟨p, 9, none⟩ (.int .u32 ((c 9 + 1) % c 8))) = w7 at *
    have kR3 := kR2.only o3 (by omega)
    have KN3 := KN2.only o3 hNp
    have t3 : Trn p w w7 := (Trn.of_grew g2).trans o3.trn
    clear o3 g2 kR2 KN2
    have y0 := KN3.cell 0
    have y1 := kR3.cell 0
    have f1 := kR3.free 0
    go_wp2_with fail
    have hset := (kR3.set (o := 0) (.slice (some ⟨gg, 0, none⟩) xs.length xs.length)).cell 0
    have HY4 := Lib.hid (HY3.out.store kR3 (.slice (some ⟨gg, 0, none⟩) xs.length xs.length))
    have tz := t3.only (Only.set w7 R 0 (.slice (some ⟨gg, 0, none⟩) xs.length xs.length)) LR.out
    have hB4 := hB3.other (c := R) (o := 0) (by omega) (.slice (some ⟨gg, 0, none⟩) xs.length xs.length)
    exact bodyPost_ret (v := .agg #[.slice (some ⟨gg, 0, none⟩) xs.length xs.length]) (by simp [results, Try.results63, go_sem, hset]) rfl ⟨_, _, _, rfl, HY4, hB4, tz⟩
end Go.Proofs.Ytoehdhhodidehaa
