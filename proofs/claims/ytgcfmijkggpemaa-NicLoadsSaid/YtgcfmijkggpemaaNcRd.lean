/-
  The document's own Store of package nic.
-/
import Derived.Test.YtgcfmijkggpemaaNcRc
import Derived.Test.YtgcfmijkggpemaaNcS
set_option maxRecDepth 4000
set_option linter.unusedVariables false
set_option linter.unusedSimpArgs false
namespace Go.Proofs.Ytgcfmijkggpemaa
open Go.RowKit

theorem clr_eq {x z : Int} (h0 : 0 ≤ x) (h1 : x < 16) (z0 : 0 ≤ z) (z1 : z < 4294967296) : bits .andNot .i64 x (z % 16) = clrV x z := by
  obtain ⟨a, rfl⟩ := Int.eq_ofNat_of_zero_le h0
  obtain ⟨b, rfl⟩ := Int.eq_ofNat_of_zero_le z0
  unfold clrV
  have e : ((b : Int) % 16) = ((b % 16 : Nat) : Int) := by omega
  rw [u32_andNot_nat a b (by omega) (by omega), e]
  have k1 : ∀ n : Fin 16, ∀ d : Fin 16, bits .andNot .i64 (n.val : Int) (d.val : Int) = ((n.val &&& (15 - d.val) : Nat) : Int) := by decide
  have := k1 ⟨a, by omega⟩ ⟨b % 16, by omega⟩
  rw [this]
  congr 1
  apply Nat.eq_of_testBit_eq
  intro i
  rw [Nat.testBit_and, Nat.testBit_and]
  by_cases hi : i < 4
  · have e2 : (4294967295 - b) % 16 = 15 - b % 16 := by omega
    have e3 : (4294967295 - b).testBit i = ((4294967295 - b) % 16).testBit i := by
      rw [show (16 : Nat) = 2 ^ 4 by rfl, Nat.testBit_mod_two_pow]
      simp [hi]
    rw [e3, e2]
  · have : a.testBit i = false := Nat.testBit_lt_two_pow (Nat.lt_of_lt_of_le (show a < 2 ^ 4 by omega) (Nat.pow_le_pow_right (by omega) (by omega)))
    rw [this]
    simp

set_option maxHeartbeats 2000000 in
theorem rStore_no {c : Nat → Int} {m : List Int} {a : Option Addr} {j : Nat} {w : World} (off size x : Int) (h0 : 0 ≤ off) (h : badL c m.length off size = true) (hB : Buf w (.slice a m.length j) m) : Calls Try.prog 16 #[ncV c (.slice a m.length j), .int .u64 off, .int .i64 size, .int .u64 x] w fun e w' => ∃ b i, e = .returned (.tuple #[ncV c (.slice b m.length i), .bool false]) ∧ Hid (Buf w' (.slice b m.length i) m) ∧ Grew w w' := by
  have hL := Lib.hid (rLoad_no c a m.length j off size h0 h)
  have HB := Lib.hid hB
  clear h h0 hB
  generalize hn : m.length = n at *
  have HN := Lib.hid hn
  clear hn
  go_enter Try.func16, Try.ntmps16
  go_upto_region 1 with fail
  have kN : Blk ((w.alloc (.cells (ncA c (.slice a n j)) 25)).alloc (.cells zeroN 25)) w.heap.size (ncA c (.slice a n j)) 25 := (Blk.new _ _ _ _ rfl).alloc _
  have kR : Blk ((w.alloc (.cells (ncA c (.slice a n j)) 25)).alloc (.cells zeroN 25)) (w.heap.size + 1) zeroN 25 := Blk.new _ _ _ _ (by simp)
  have g0 : Grew w ((w.alloc (.cells (ncA c (.slice a n j)) 25)).alloc (.cells zeroN 25)) := ((Grew.refl w).alloc _).alloc _
  generalize ((w.alloc (.cells (ncA c (.slice a n j)) 25)).alloc (.cells zeroN 25)) = w0 at *
  have nNR : w.heap.size ≠ w.heap.size + 1 := by omega
  have lN : w.heap.size ≤ w.heap.size := Nat.le_refl _
  have lR : w.heap.size ≤ w.heap.size + 1 := Nat.le_succ _
  generalize w.heap.size + 1 = R at *
  generalize hZ : w.heap.size = N at *
  have HZ := Lib.hid hZ
  clear hZ
  have LN : Hid (w.heap.size ≤ N) := Lib.hid (by rw [HZ.out]; exact lN)
  have LR : Hid (w.heap.size ≤ R) := Lib.hid (by rw [HZ.out]; exact lR)
  clear lN lR
  go_wp2_with (refine ld_nc rfl (.tmp 4) rfl _ rfl kN (by rfl) ?_)
  refine (hL.out _).mono ?_
  rintro e w1 ⟨rfl, g1⟩
  replace kN := kN.grew g1
  replace kR := kR.grew g1
  replace g0 := g0.trans g1
  clear g1
  go_wp2_with (first | refine ld_nc rfl (.tmp 4) rfl _ rfl kN (by rfl) ?_ | (refine st_nc rfl (.tmp 8) (.tmp 23) rfl rfl c kR rfl (by rfl) (by rfl) ⟨_, _, _, rfl⟩ ?_; intro w3 kR3 o3))
  have g3 := o3.grew g0 LR.out
  exact bodyPost_ret (v := .tuple #[ncV c (.slice a n j), .bool false]) (results_nb (p := 8) (q := 9) Try.results16 _ _ R kR3 rfl) rfl ⟨a, j, rfl, Lib.hid (HB.out.grew g3), g3⟩
set_option maxHeartbeats 8000000 in
theorem rStore_a {c : Nat → Int} {m : List Int} {a : Option Addr} {j : Nat} {w : World} (hc : ROk c) (hm : MacIs c m) {x z : Int} (h0 : 0 ≤ x) (hz : x % 4294967296 = z) (r1 : ¬ 1 ≤ z) {k : Nat} (hk : k < 15) (hB : Buf w (.slice a 6 j) m) : Calls Try.prog 16 #[ncV c (.slice a 6 j), .int .u64 (4 * (k : Int)), .int .i64 4, .int .u64 x] w fun e w' => ∃ b i, e = .returned (.tuple #[ncV (stC k z c) (.slice b 6 i), .bool true]) ∧ Hid (Buf w' (.slice b 6 i) m) ∧ Grew w w' := by
  have hL := Lib.hid (fun (w : World) (h : Buf w (.slice a 6 j) m) => rLoad_yes hc hm h hk)
  have HB := Lib.hid hB
  have HO := Lib.hid hc
  have HZZ : Hid (0 ≤ z ∧ z < 4294967296) := Lib.hid (by omega)
  have hx : x.tmod 4294967296 = z := by rw [Int.tmod_eq_emod_of_nonneg h0]; exact hz
  have q4 : (4 * (k : Int)).tdiv 4 = k := by rw [Int.tdiv_eq_ediv_of_nonneg (by omega)]; omega
  have wk : IntKind.u64.wrap (k : Int) = k := IntWalk.u64_in _ (by omega)
  have wz : IntKind.u64.wrap z = z := IntWalk.u64_in _ (by omega)
  have iz : IntKind.i64.wrap z = z := IntWalk.i64_in _ (by omega)
  have t8 : z.tmod 8 = z % 8 := Int.tmod_eq_emod_of_nonneg (by omega)
  have w8 : IntKind.u64.wrap (z % 8) = z % 8 := IntWalk.u64_in _ (by omega)
  have i8 : IntKind.i64.wrap (z % 8) = z % 8 := IntWalk.i64_in _ (by omega)
  have t16 : z.tmod 16 = z % 16 := Int.tmod_eq_emod_of_nonneg (by omega)
  have w16 : IntKind.u64.wrap (z % 16) = z % 16 := IntWalk.u64_in _ (by omega)
  have i16 : IntKind.i64.wrap (z % 16) = z % 16 := IntWalk.i64_in _ (by omega)
  have c4 : IntKind.u64.wrap (c 4) = c 4 := IntWalk.u64_in _ (by have := hc.r4; omega)
  have c8 : IntKind.u64.wrap (c 8) = c 8 := IntWalk.u64_in _ (by have := hc.r8; omega)
  have hlz : lenB z = false := by unfold lenB; simp; omega
  have HLZ := Lib.hid hlz
  clear hlz hB hc hm hz h0
  go_enter Try.func16, Try.ntmps16
  go_upto_region 1 with fail
  have kN : Blk ((w.alloc (.cells (ncA c (.slice a 6 j)) 25)).alloc (.cells zeroN 25)) w.heap.size (ncA c (.slice a 6 j)) 25 := (Blk.new _ _ _ _ rfl).alloc _
  have kR : Blk ((w.alloc (.cells (ncA c (.slice a 6 j)) 25)).alloc (.cells zeroN 25)) (w.heap.size + 1) zeroN 25 := Blk.new _ _ _ _ (by simp)
  have g0 : Grew w ((w.alloc (.cells (ncA c (.slice a 6 j)) 25)).alloc (.cells zeroN 25)) := ((Grew.refl w).alloc _).alloc _
  generalize ((w.alloc (.cells (ncA c (.slice a 6 j)) 25)).alloc (.cells zeroN 25)) = w0 at *
  have nNR : w.heap.size ≠ w.heap.size + 1 := by omega
  have lN : w.heap.size ≤ w.heap.size := Nat.le_refl _
  have lR : w.heap.size ≤ w.heap.size + 1 := Nat.le_succ _
  generalize w.heap.size + 1 = R at *
  generalize hZ : w.heap.size = N at *
  have HZ := Lib.hid hZ
  clear hZ
  have LN : Hid (w.heap.size ≤ N) := Lib.hid (by rw [HZ.out]; exact lN)
  have LR : Hid (w.heap.size ≤ R) := Lib.hid (by rw [HZ.out]; exact lR)
  clear lN lR
  go_wp2_with (refine ld_nc rfl (.tmp 4) rfl _ rfl kN (by rfl) ?_)
  refine (hL.out _ (HB.out.grew g0)).mono ?_
  rintro e w1 ⟨rfl, g1⟩
  replace kN := kN.grew g1
  replace kR := kR.grew g1
  replace g0 := g0.trans g1
  clear g1
  generalize hck : c k = ck at *
  clear hck
  go_upto_region 7 with fail
  clear q4 wk hx
  have hlz := HLZ.out
  rcases (show k = 0 ∨ k = 1 ∨ k = 2 ∨ k = 3 ∨ k = 4 ∨ k = 5 ∨ k = 6 ∨ k = 7 ∨ k = 8 ∨ k = 9 ∨ k = 10 ∨ k = 11 ∨ k = 12 ∨ k = 13 ∨ k = 14 by omega) with rfl | rfl | rfl | rfl | rfl | rfl | rfl | rfl | rfl | rfl | rfl | rfl | rfl | rfl | rfl
  · have f0 := kN.free 0
    have x0 : w1.cell? ⟨N, 0, none⟩ = some (.int .i64 (c 0)) := kN.cell 0
    go_upto_region 29 with fail
    have kN2 : Blk (w1.setCell ⟨N, 0, none⟩ (.int .i64 (z % 8))) N (ncA (upd c 0 (z % 8)) (.slice a 6 j)) 25 := (kN.nc (k := 0) (by decide) (by decide) (by decide) (z % 8))
    have g2 := (g0.setCell (b := N) (o := 0) LN.out (.int .i64 (z % 8)))
    have kR2 := (kR.other (c := N) (o := 0) nNR.symm (.int .i64 (z % 8)))
    clear f0
    generalize (w1.setCell ⟨N, 0, none⟩ (.int .i64 (z % 8))) = w2 at *
    have hcc : stC 0 z c = (upd c 0 (z % 8)) := by simp [stC]
    go_wp2_with (first | refine ld_nc rfl (.tmp 4) rfl _ rfl kN2 (by rfl) ?_ | (refine st_nc rfl (.tmp 8) (.tmp 99) rfl rfl (upd c 0 (z % 8)) kR2 rfl (by rfl) (by rfl) ⟨_, _, _, rfl⟩ ?_; intro w3 kR3 o3))
    have g3 := o3.grew g2 LR.out
    exact bodyPost_ret (v := .tuple #[ncV (upd c 0 (z % 8)) (.slice a 6 j), .bool true]) (results_nb (p := 8) (q := 9) Try.results16 _ _ R kR3 rfl) rfl ⟨a, j, by first | rw [hcc] | rfl, Lib.hid (HB.out.grew g3), g3⟩
  · have y : w1.cell? ⟨N, 1, none⟩ = some (.int .i64 (c 1)) := kN.cell 1
    have f1 := kN.free 1
    go_upto_region 29 with fail
    have kN2 : Blk (w1.setCell ⟨N, 1, none⟩ (.int .i64 (bits .andNot .i64 (c 1) (z % 16)))) N (ncA (upd c 1 (bits .andNot .i64 (c 1) (z % 16))) (.slice a 6 j)) 25 := (kN.nc (k := 1) (by decide) (by decide) (by decide) (bits .andNot .i64 (c 1) (z % 16)))
    have g2 := (g0.setCell (b := N) (o := 1) LN.out (.int .i64 (bits .andNot .i64 (c 1) (z % 16))))
    have kR2 := (kR.other (c := N) (o := 1) nNR.symm (.int .i64 (bits .andNot .i64 (c 1) (z % 16))))
    clear f1
    generalize (w1.setCell ⟨N, 1, none⟩ (.int .i64 (bits .andNot .i64 (c 1) (z % 16)))) = w2 at *
    have hcc : stC 1 z c = (upd c 1 (bits .andNot .i64 (c 1) (z % 16))) := by rw [clr_eq HO.out.r1.1 HO.out.r1.2 HZZ.out.1 HZZ.out.2]; simp [stC]
    go_wp2_with (first | refine ld_nc rfl (.tmp 4) rfl _ rfl kN2 (by rfl) ?_ | (refine st_nc rfl (.tmp 8) (.tmp 99) rfl rfl (upd c 1 (bits .andNot .i64 (c 1) (z % 16))) kR2 rfl (by rfl) (by rfl) ⟨_, _, _, rfl⟩ ?_; intro w3 kR3 o3))
    have g3 := o3.grew g2 LR.out
    exact bodyPost_ret (v := .tuple #[ncV (upd c 1 (bits .andNot .i64 (c 1) (z % 16))) (.slice a 6 j), .bool true]) (results_nb (p := 8) (q := 9) Try.results16 _ _ R kR3 rfl) rfl ⟨a, j, by first | rw [hcc] | rfl, Lib.hid (HB.out.grew g3), g3⟩
  · have f2 := kN.free 2
    have x2 : w1.cell? ⟨N, 2, none⟩ = some (.int .i64 (c 2)) := kN.cell 2
    go_upto_region 29 with fail
    have kN2 : Blk (w1.setCell ⟨N, 2, none⟩ (.int .i64 (z % 16))) N (ncA (upd c 2 (z % 16)) (.slice a 6 j)) 25 := (kN.nc (k := 2) (by decide) (by decide) (by decide) (z % 16))
    have g2 := (g0.setCell (b := N) (o := 2) LN.out (.int .i64 (z % 16)))
    have kR2 := (kR.other (c := N) (o := 2) nNR.symm (.int .i64 (z % 16)))
    clear f2
    generalize (w1.setCell ⟨N, 2, none⟩ (.int .i64 (z % 16))) = w2 at *
    have hcc : stC 2 z c = (upd c 2 (z % 16)) := by simp [stC]
    go_wp2_with (first | refine ld_nc rfl (.tmp 4) rfl _ rfl kN2 (by rfl) ?_ | (refine st_nc rfl (.tmp 8) (.tmp 99) rfl rfl (upd c 2 (z % 16)) kR2 rfl (by rfl) (by rfl) ⟨_, _, _, rfl⟩ ?_; intro w3 kR3 o3))
    have g3 := o3.grew g2 LR.out
    exact bodyPost_ret (v := .tuple #[ncV (upd c 2 (z % 16)) (.slice a 6 j), .bool true]) (results_nb (p := 8) (q := 9) Try.results16 _ _ R kR3 rfl) rfl ⟨a, j, by first | rw [hcc] | rfl, Lib.hid (HB.out.grew g3), g3⟩
  · have f3 := kN.free 3
    have x3 : w1.cell? ⟨N, 3, none⟩ = some (.int .u64 (c 3)) := kN.cell 3
    go_upto_region 29 with fail
    have kN2 : Blk (w1.setCell ⟨N, 3, none⟩ (.int .u64 z)) N (ncA (upd c 3 z) (.slice a 6 j)) 25 := (kN.set (o := 3) (.int .u64 z))
    have g2 := (g0.setCell (b := N) (o := 3) LN.out (.int .u64 z))
    have kR2 := (kR.other (c := N) (o := 3) nNR.symm (.int .u64 z))
    clear f3
    generalize (w1.setCell ⟨N, 3, none⟩ (.int .u64 z)) = w2 at *
    have hcc : stC 3 z c = (upd c 3 z) := by simp [stC]
    go_wp2_with (first | refine ld_nc rfl (.tmp 4) rfl _ rfl kN2 (by rfl) ?_ | (refine st_nc rfl (.tmp 8) (.tmp 99) rfl rfl (upd c 3 z) kR2 rfl (by rfl) (by rfl) ⟨_, _, _, rfl⟩ ?_; intro w3 kR3 o3))
    have g3 := o3.grew g2 LR.out
    exact bodyPost_ret (v := .tuple #[ncV (upd c 3 z) (.slice a 6 j), .bool true]) (results_nb (p := 8) (q := 9) Try.results16 _ _ R kR3 rfl) rfl ⟨a, j, by first | rw [hcc] | rfl, Lib.hid (HB.out.grew g3), g3⟩
  · go_upto_region 29 with fail
    have kN2 := kN
    have g2 := g0
    have kR2 := kR
    have hcc : stC 4 z c = c := by simp [stC, begint, hlz]
    go_wp2_with (first | refine ld_nc rfl (.tmp 4) rfl _ rfl kN2 (by rfl) ?_ | (refine st_nc rfl (.tmp 8) (.tmp 99) rfl rfl c kR2 rfl (by rfl) (by rfl) ⟨_, _, _, rfl⟩ ?_; intro w3 kR3 o3))
    have g3 := o3.grew g2 LR.out
    exact bodyPost_ret (v := .tuple #[ncV c (.slice a 6 j), .bool true]) (results_nb (p := 8) (q := 9) Try.results16 _ _ R kR3 rfl) rfl ⟨a, j, by first | rw [hcc] | rfl, Lib.hid (HB.out.grew g3), g3⟩
  · go_upto_region 29 with fail
    have kN2 := kN
    have g2 := g0
    have kR2 := kR
    have hcc : stC 5 z c = c := by simp [stC]
    go_wp2_with (first | refine ld_nc rfl (.tmp 4) rfl _ rfl kN2 (by rfl) ?_ | (refine st_nc rfl (.tmp 8) (.tmp 99) rfl rfl c kR2 rfl (by rfl) (by rfl) ⟨_, _, _, rfl⟩ ?_; intro w3 kR3 o3))
    have g3 := o3.grew g2 LR.out
    exact bodyPost_ret (v := .tuple #[ncV c (.slice a 6 j), .bool true]) (results_nb (p := 8) (q := 9) Try.results16 _ _ R kR3 rfl) rfl ⟨a, j, by first | rw [hcc] | rfl, Lib.hid (HB.out.grew g3), g3⟩
  · by_cases hcz : z < c 4
    · have y : w1.cell? ⟨N, 4, none⟩ = some (.int .i64 (c 4)) := kN.cell 4
      have f6 := kN.free 6
      have x6 : w1.cell? ⟨N, 6, none⟩ = some (.int .i64 (c 6)) := kN.cell 6
      go_upto_region 29 with fail
      have kN2 : Blk (w1.setCell ⟨N, 6, none⟩ (.int .i64 z)) N (ncA (upd c 6 z) (.slice a 6 j)) 25 := (kN.nc (k := 6) (by decide) (by decide) (by decide) z)
      have g2 := (g0.setCell (b := N) (o := 6) LN.out (.int .i64 z))
      have kR2 := (kR.other (c := N) (o := 6) nNR.symm (.int .i64 z))
      clear f6
      generalize (w1.setCell ⟨N, 6, none⟩ (.int .i64 z)) = w2 at *
      have hcc : stC 6 z c = (upd c 6 z) := by simp [stC, reacht, hcz]
      go_wp2_with (first | refine ld_nc rfl (.tmp 4) rfl _ rfl kN2 (by rfl) ?_ | (refine st_nc rfl (.tmp 8) (.tmp 99) rfl rfl (upd c 6 z) kR2 rfl (by rfl) (by rfl) ⟨_, _, _, rfl⟩ ?_; intro w3 kR3 o3))
      have g3 := o3.grew g2 LR.out
      exact bodyPost_ret (v := .tuple #[ncV (upd c 6 z) (.slice a 6 j), .bool true]) (results_nb (p := 8) (q := 9) Try.results16 _ _ R kR3 rfl) rfl ⟨a, j, by first | rw [hcc] | rfl, Lib.hid (HB.out.grew g3), g3⟩
    · have y : w1.cell? ⟨N, 4, none⟩ = some (.int .i64 (c 4)) := kN.cell 4
      go_upto_region 29 with fail
      have kN2 := kN
      have g2 := g0
      have kR2 := kR
      have hcc : stC 6 z c = c := by simp [stC, reacht, hcz]
      go_wp2_with (first | refine ld_nc rfl (.tmp 4) rfl _ rfl kN2 (by rfl) ?_ | (refine st_nc rfl (.tmp 8) (.tmp 99) rfl rfl c kR2 rfl (by rfl) (by rfl) ⟨_, _, _, rfl⟩ ?_; intro w3 kR3 o3))
      have g3 := o3.grew g2 LR.out
      exact bodyPost_ret (v := .tuple #[ncV c (.slice a 6 j), .bool true]) (results_nb (p := 8) (q := 9) Try.results16 _ _ R kR3 rfl) rfl ⟨a, j, by first | rw [hcc] | rfl, Lib.hid (HB.out.grew g3), g3⟩
  · have f7 := kN.free 7
    have x7 : w1.cell? ⟨N, 7, none⟩ = some (.int .u64 (c 7)) := kN.cell 7
    go_upto_region 29 with fail
    have kN2 : Blk (w1.setCell ⟨N, 7, none⟩ (.int .u64 z)) N (ncA (upd c 7 z) (.slice a 6 j)) 25 := (kN.set (o := 7) (.int .u64 z))
    have g2 := (g0.setCell (b := N) (o := 7) LN.out (.int .u64 z))
    have kR2 := (kR.other (c := N) (o := 7) nNR.symm (.int .u64 z))
    clear f7
    generalize (w1.setCell ⟨N, 7, none⟩ (.int .u64 z)) = w2 at *
    have hcc : stC 7 z c = (upd c 7 z) := by simp [stC]
    go_wp2_with (first | refine ld_nc rfl (.tmp 4) rfl _ rfl kN2 (by rfl) ?_ | (refine st_nc rfl (.tmp 8) (.tmp 99) rfl rfl (upd c 7 z) kR2 rfl (by rfl) (by rfl) ⟨_, _, _, rfl⟩ ?_; intro w3 kR3 o3))
    have g3 := o3.grew g2 LR.out
    exact bodyPost_ret (v := .tuple #[ncV (upd c 7 z) (.slice a 6 j), .bool true]) (results_nb (p := 8) (q := 9) Try.results16 _ _ R kR3 rfl) rfl ⟨a, j, by first | rw [hcc] | rfl, Lib.hid (HB.out.grew g3), g3⟩
  · go_upto_region 29 with fail
    have kN2 := kN
    have g2 := g0
    have kR2 := kR
    have hcc : stC 8 z c = c := by simp [stC, beginr, hlz]
    go_wp2_with (first | refine ld_nc rfl (.tmp 4) rfl _ rfl kN2 (by rfl) ?_ | (refine st_nc rfl (.tmp 8) (.tmp 99) rfl rfl c kR2 rfl (by rfl) (by rfl) ⟨_, _, _, rfl⟩ ?_; intro w3 kR3 o3))
    have g3 := o3.grew g2 LR.out
    exact bodyPost_ret (v := .tuple #[ncV c (.slice a 6 j), .bool true]) (results_nb (p := 8) (q := 9) Try.results16 _ _ R kR3 rfl) rfl ⟨a, j, by first | rw [hcc] | rfl, Lib.hid (HB.out.grew g3), g3⟩
  · go_upto_region 29 with fail
    have kN2 := kN
    have g2 := g0
    have kR2 := kR
    have hcc : stC 9 z c = c := by simp [stC]
    go_wp2_with (first | refine ld_nc rfl (.tmp 4) rfl _ rfl kN2 (by rfl) ?_ | (refine st_nc rfl (.tmp 8) (.tmp 99) rfl rfl c kR2 rfl (by rfl) (by rfl) ⟨_, _, _, rfl⟩ ?_; intro w3 kR3 o3))
    have g3 := o3.grew g2 LR.out
    exact bodyPost_ret (v := .tuple #[ncV c (.slice a 6 j), .bool true]) (results_nb (p := 8) (q := 9) Try.results16 _ _ R kR3 rfl) rfl ⟨a, j, by first | rw [hcc] | rfl, Lib.hid (HB.out.grew g3), g3⟩
  · by_cases hcz : z < c 8
    · have y : w1.cell? ⟨N, 8, none⟩ = some (.int .i64 (c 8)) := kN.cell 8
      have f10 := kN.free 10
      have x10 : w1.cell? ⟨N, 10, none⟩ = some (.int .i64 (c 10)) := kN.cell 10
      go_upto_region 29 with fail
      have kN2 : Blk (w1.setCell ⟨N, 10, none⟩ (.int .i64 z)) N (ncA (upd c 10 z) (.slice a 6 j)) 25 := (kN.nc (k := 10) (by decide) (by decide) (by decide) z)
      have g2 := (g0.setCell (b := N) (o := 10) LN.out (.int .i64 z))
      have kR2 := (kR.other (c := N) (o := 10) nNR.symm (.int .i64 z))
      clear f10
      generalize (w1.setCell ⟨N, 10, none⟩ (.int .i64 z)) = w2 at *
      have hcc : stC 10 z c = (upd c 10 z) := by simp [stC, reachr, hcz]
      go_wp2_with (first | refine ld_nc rfl (.tmp 4) rfl _ rfl kN2 (by rfl) ?_ | (refine st_nc rfl (.tmp 8) (.tmp 99) rfl rfl (upd c 10 z) kR2 rfl (by rfl) (by rfl) ⟨_, _, _, rfl⟩ ?_; intro w3 kR3 o3))
      have g3 := o3.grew g2 LR.out
      exact bodyPost_ret (v := .tuple #[ncV (upd c 10 z) (.slice a 6 j), .bool true]) (results_nb (p := 8) (q := 9) Try.results16 _ _ R kR3 rfl) rfl ⟨a, j, by first | rw [hcc] | rfl, Lib.hid (HB.out.grew g3), g3⟩
    · have y : w1.cell? ⟨N, 8, none⟩ = some (.int .i64 (c 8)) := kN.cell 8
      go_upto_region 29 with fail
      have kN2 := kN
      have g2 := g0
      have kR2 := kR
      have hcc : stC 10 z c = c := by simp [stC, reachr, hcz]
      go_wp2_with (first | refine ld_nc rfl (.tmp 4) rfl _ rfl kN2 (by rfl) ?_ | (refine st_nc rfl (.tmp 8) (.tmp 99) rfl rfl c kR2 rfl (by rfl) (by rfl) ⟨_, _, _, rfl⟩ ?_; intro w3 kR3 o3))
      have g3 := o3.grew g2 LR.out
      exact bodyPost_ret (v := .tuple #[ncV c (.slice a 6 j), .bool true]) (results_nb (p := 8) (q := 9) Try.results16 _ _ R kR3 rfl) rfl ⟨a, j, by first | rw [hcc] | rfl, Lib.hid (HB.out.grew g3), g3⟩
  · go_upto_region 29 with fail
    have kN2 := kN
    have g2 := g0
    have kR2 := kR
    have hcc : stC 11 z c = c := by simp [stC]
    go_wp2_with (first | refine ld_nc rfl (.tmp 4) rfl _ rfl kN2 (by rfl) ?_ | (refine st_nc rfl (.tmp 8) (.tmp 99) rfl rfl c kR2 rfl (by rfl) (by rfl) ⟨_, _, _, rfl⟩ ?_; intro w3 kR3 o3))
    have g3 := o3.grew g2 LR.out
    exact bodyPost_ret (v := .tuple #[ncV c (.slice a 6 j), .bool true]) (results_nb (p := 8) (q := 9) Try.results16 _ _ R kR3 rfl) rfl ⟨a, j, by first | rw [hcc] | rfl, Lib.hid (HB.out.grew g3), g3⟩
  · go_upto_region 29 with fail
    have kN2 := kN
    have g2 := g0
    have kR2 := kR
    have hcc : stC 12 z c = c := by simp [stC]
    go_wp2_with (first | refine ld_nc rfl (.tmp 4) rfl _ rfl kN2 (by rfl) ?_ | (refine st_nc rfl (.tmp 8) (.tmp 99) rfl rfl c kR2 rfl (by rfl) (by rfl) ⟨_, _, _, rfl⟩ ?_; intro w3 kR3 o3))
    have g3 := o3.grew g2 LR.out
    exact bodyPost_ret (v := .tuple #[ncV c (.slice a 6 j), .bool true]) (results_nb (p := 8) (q := 9) Try.results16 _ _ R kR3 rfl) rfl ⟨a, j, by first | rw [hcc] | rfl, Lib.hid (HB.out.grew g3), g3⟩
  · go_upto_region 29 with fail
    have kN2 := kN
    have g2 := g0
    have kR2 := kR
    have hcc : stC 13 z c = c := by simp [stC]
    go_wp2_with (first | refine ld_nc rfl (.tmp 4) rfl _ rfl kN2 (by rfl) ?_ | (refine st_nc rfl (.tmp 8) (.tmp 99) rfl rfl c kR2 rfl (by rfl) (by rfl) ⟨_, _, _, rfl⟩ ?_; intro w3 kR3 o3))
    have g3 := o3.grew g2 LR.out
    exact bodyPost_ret (v := .tuple #[ncV c (.slice a 6 j), .bool true]) (results_nb (p := 8) (q := 9) Try.results16 _ _ R kR3 rfl) rfl ⟨a, j, by first | rw [hcc] | rfl, Lib.hid (HB.out.grew g3), g3⟩
  · go_upto_region 29 with fail
    have kN2 := kN
    have g2 := g0
    have kR2 := kR
    have hcc : stC 14 z c = c := by simp [stC]
    go_wp2_with (first | refine ld_nc rfl (.tmp 4) rfl _ rfl kN2 (by rfl) ?_ | (refine st_nc rfl (.tmp 8) (.tmp 99) rfl rfl c kR2 rfl (by rfl) (by rfl) ⟨_, _, _, rfl⟩ ?_; intro w3 kR3 o3))
    have g3 := o3.grew g2 LR.out
    exact bodyPost_ret (v := .tuple #[ncV c (.slice a 6 j), .bool true]) (results_nb (p := 8) (q := 9) Try.results16 _ _ R kR3 rfl) rfl ⟨a, j, by first | rw [hcc] | rfl, Lib.hid (HB.out.grew g3), g3⟩
set_option maxHeartbeats 8000000 in
theorem rStore_b {c : Nat → Int} {m : List Int} {a : Option Addr} {j : Nat} {w : World} (hc : ROk c) (hm : MacIs c m) {x z : Int} (h0 : 0 ≤ x) (hz : x % 4294967296 = z) (r1 : 1 ≤ z) (r2 : z ≤ 64) {k : Nat} (hk : k < 15) (hB : Buf w (.slice a 6 j) m) : Calls Try.prog 16 #[ncV c (.slice a 6 j), .int .u64 (4 * (k : Int)), .int .i64 4, .int .u64 x] w fun e w' => ∃ b i, e = .returned (.tuple #[ncV (stC k z c) (.slice b 6 i), .bool true]) ∧ Hid (Buf w' (.slice b 6 i) m) ∧ Grew w w' := by
  have hL := Lib.hid (fun (w : World) (h : Buf w (.slice a 6 j) m) => rLoad_yes hc hm h hk)
  have HB := Lib.hid hB
  have HO := Lib.hid hc
  have HZZ : Hid (0 ≤ z ∧ z < 4294967296) := Lib.hid (by omega)
  have hx : x.tmod 4294967296 = z := by rw [Int.tmod_eq_emod_of_nonneg h0]; exact hz
  have q4 : (4 * (k : Int)).tdiv 4 = k := by rw [Int.tdiv_eq_ediv_of_nonneg (by omega)]; omega
  have wk : IntKind.u64.wrap (k : Int) = k := IntWalk.u64_in _ (by omega)
  have wz : IntKind.u64.wrap z = z := IntWalk.u64_in _ (by omega)
  have iz : IntKind.i64.wrap z = z := IntWalk.i64_in _ (by omega)
  have t8 : z.tmod 8 = z % 8 := Int.tmod_eq_emod_of_nonneg (by omega)
  have w8 : IntKind.u64.wrap (z % 8) = z % 8 := IntWalk.u64_in _ (by omega)
  have i8 : IntKind.i64.wrap (z % 8) = z % 8 := IntWalk.i64_in _ (by omega)
  have t16 : z.tmod 16 = z % 16 := Int.tmod_eq_emod_of_nonneg (by omega)
  have w16 : IntKind.u64.wrap (z % 16) = z % 16 := IntWalk.u64_in _ (by omega)
  have i16 : IntKind.i64.wrap (z % 16) = z % 16 := IntWalk.i64_in _ (by omega)
  have c4 : IntKind.u64.wrap (c 4) = c 4 := IntWalk.u64_in _ (by have := hc.r4; omega)
  have c8 : IntKind.u64.wrap (c 8) = c 8 := IntWalk.u64_in _ (by have := hc.r8; omega)
  have hlz : lenB z = true := by unfold lenB; simp; omega
  have HLZ := Lib.hid hlz
  clear hlz hB hc hm hz h0
  go_enter Try.func16, Try.ntmps16
  go_upto_region 1 with fail
  have kN : Blk ((w.alloc (.cells (ncA c (.slice a 6 j)) 25)).alloc (.cells zeroN 25)) w.heap.size (ncA c (.slice a 6 j)) 25 := (Blk.new _ _ _ _ rfl).alloc _
  have kR : Blk ((w.alloc (.cells (ncA c (.slice a 6 j)) 25)).alloc (.cells zeroN 25)) (w.heap.size + 1) zeroN 25 := Blk.new _ _ _ _ (by simp)
  have g0 : Grew w ((w.alloc (.cells (ncA c (.slice a 6 j)) 25)).alloc (.cells zeroN 25)) := ((Grew.refl w).alloc _).alloc _
  generalize ((w.alloc (.cells (ncA c (.slice a 6 j)) 25)).alloc (.cells zeroN 25)) = w0 at *
  have nNR : w.heap.size ≠ w.heap.size + 1 := by omega
  have lN : w.heap.size ≤ w.heap.size := Nat.le_refl _
  have lR : w.heap.size ≤ w.heap.size + 1 := Nat.le_succ _
  generalize w.heap.size + 1 = R at *
  generalize hZ : w.heap.size = N at *
  have HZ := Lib.hid hZ
  clear hZ
  have LN : Hid (w.heap.size ≤ N) := Lib.hid (by rw [HZ.out]; exact lN)
  have LR : Hid (w.heap.size ≤ R) := Lib.hid (by rw [HZ.out]; exact lR)
  clear lN lR
  go_wp2_with (refine ld_nc rfl (.tmp 4) rfl _ rfl kN (by rfl) ?_)
  refine (hL.out _ (HB.out.grew g0)).mono ?_
  rintro e w1 ⟨rfl, g1⟩
  replace kN := kN.grew g1
  replace kR := kR.grew g1
  replace g0 := g0.trans g1
  clear g1
  generalize hck : c k = ck at *
  clear hck
  go_upto_region 7 with fail
  clear q4 wk hx
  have hlz := HLZ.out
  rcases (show k = 0 ∨ k = 1 ∨ k = 2 ∨ k = 3 ∨ k = 4 ∨ k = 5 ∨ k = 6 ∨ k = 7 ∨ k = 8 ∨ k = 9 ∨ k = 10 ∨ k = 11 ∨ k = 12 ∨ k = 13 ∨ k = 14 by omega) with rfl | rfl | rfl | rfl | rfl | rfl | rfl | rfl | rfl | rfl | rfl | rfl | rfl | rfl | rfl
  · have f0 := kN.free 0
    have x0 : w1.cell? ⟨N, 0, none⟩ = some (.int .i64 (c 0)) := kN.cell 0
    go_upto_region 29 with fail
    have kN2 : Blk (w1.setCell ⟨N, 0, none⟩ (.int .i64 (z % 8))) N (ncA (upd c 0 (z % 8)) (.slice a 6 j)) 25 := (kN.nc (k := 0) (by decide) (by decide) (by decide) (z % 8))
    have g2 := (g0.setCell (b := N) (o := 0) LN.out (.int .i64 (z % 8)))
    have kR2 := (kR.other (c := N) (o := 0) nNR.symm (.int .i64 (z % 8)))
    clear f0
    generalize (w1.setCell ⟨N, 0, none⟩ (.int .i64 (z % 8))) = w2 at *
    have hcc : stC 0 z c = (upd c 0 (z % 8)) := by simp [stC]
    go_wp2_with (first | refine ld_nc rfl (.tmp 4) rfl _ rfl kN2 (by rfl) ?_ | (refine st_nc rfl (.tmp 8) (.tmp 99) rfl rfl (upd c 0 (z % 8)) kR2 rfl (by rfl) (by rfl) ⟨_, _, _, rfl⟩ ?_; intro w3 kR3 o3))
    have g3 := o3.grew g2 LR.out
    exact bodyPost_ret (v := .tuple #[ncV (upd c 0 (z % 8)) (.slice a 6 j), .bool true]) (results_nb (p := 8) (q := 9) Try.results16 _ _ R kR3 rfl) rfl ⟨a, j, by first | rw [hcc] | rfl, Lib.hid (HB.out.grew g3), g3⟩
  · have y : w1.cell? ⟨N, 1, none⟩ = some (.int .i64 (c 1)) := kN.cell 1
    have f1 := kN.free 1
    go_upto_region 29 with fail
    have kN2 : Blk (w1.setCell ⟨N, 1, none⟩ (.int .i64 (bits .andNot .i64 (c 1) (z % 16)))) N (ncA (upd c 1 (bits .andNot .i64 (c 1) (z % 16))) (.slice a 6 j)) 25 := (kN.nc (k := 1) (by decide) (by decide) (by decide) (bits .andNot .i64 (c 1) (z % 16)))
    have g2 := (g0.setCell (b := N) (o := 1) LN.out (.int .i64 (bits .andNot .i64 (c 1) (z % 16))))
    have kR2 := (kR.other (c := N) (o := 1) nNR.symm (.int .i64 (bits .andNot .i64 (c 1) (z % 16))))
    clear f1
    generalize (w1.setCell ⟨N, 1, none⟩ (.int .i64 (bits .andNot .i64 (c 1) (z % 16)))) = w2 at *
    have hcc : stC 1 z c = (upd c 1 (bits .andNot .i64 (c 1) (z % 16))) := by rw [clr_eq HO.out.r1.1 HO.out.r1.2 HZZ.out.1 HZZ.out.2]; simp [stC]
    go_wp2_with (first | refine ld_nc rfl (.tmp 4) rfl _ rfl kN2 (by rfl) ?_ | (refine st_nc rfl (.tmp 8) (.tmp 99) rfl rfl (upd c 1 (bits .andNot .i64 (c 1) (z % 16))) kR2 rfl (by rfl) (by rfl) ⟨_, _, _, rfl⟩ ?_; intro w3 kR3 o3))
    have g3 := o3.grew g2 LR.out
    exact bodyPost_ret (v := .tuple #[ncV (upd c 1 (bits .andNot .i64 (c 1) (z % 16))) (.slice a 6 j), .bool true]) (results_nb (p := 8) (q := 9) Try.results16 _ _ R kR3 rfl) rfl ⟨a, j, by first | rw [hcc] | rfl, Lib.hid (HB.out.grew g3), g3⟩
  · have f2 := kN.free 2
    have x2 : w1.cell? ⟨N, 2, none⟩ = some (.int .i64 (c 2)) := kN.cell 2
    go_upto_region 29 with fail
    have kN2 : Blk (w1.setCell ⟨N, 2, none⟩ (.int .i64 (z % 16))) N (ncA (upd c 2 (z % 16)) (.slice a 6 j)) 25 := (kN.nc (k := 2) (by decide) (by decide) (by decide) (z % 16))
    have g2 := (g0.setCell (b := N) (o := 2) LN.out (.int .i64 (z % 16)))
    have kR2 := (kR.other (c := N) (o := 2) nNR.symm (.int .i64 (z % 16)))
    clear f2
    generalize (w1.setCell ⟨N, 2, none⟩ (.int .i64 (z % 16))) = w2 at *
    have hcc : stC 2 z c = (upd c 2 (z % 16)) := by simp [stC]
    go_wp2_with (first | refine ld_nc rfl (.tmp 4) rfl _ rfl kN2 (by rfl) ?_ | (refine st_nc rfl (.tmp 8) (.tmp 99) rfl rfl (upd c 2 (z % 16)) kR2 rfl (by rfl) (by rfl) ⟨_, _, _, rfl⟩ ?_; intro w3 kR3 o3))
    have g3 := o3.grew g2 LR.out
    exact bodyPost_ret (v := .tuple #[ncV (upd c 2 (z % 16)) (.slice a 6 j), .bool true]) (results_nb (p := 8) (q := 9) Try.results16 _ _ R kR3 rfl) rfl ⟨a, j, by first | rw [hcc] | rfl, Lib.hid (HB.out.grew g3), g3⟩
  · have f3 := kN.free 3
    have x3 : w1.cell? ⟨N, 3, none⟩ = some (.int .u64 (c 3)) := kN.cell 3
    go_upto_region 29 with fail
    have kN2 : Blk (w1.setCell ⟨N, 3, none⟩ (.int .u64 z)) N (ncA (upd c 3 z) (.slice a 6 j)) 25 := (kN.set (o := 3) (.int .u64 z))
    have g2 := (g0.setCell (b := N) (o := 3) LN.out (.int .u64 z))
    have kR2 := (kR.other (c := N) (o := 3) nNR.symm (.int .u64 z))
    clear f3
    generalize (w1.setCell ⟨N, 3, none⟩ (.int .u64 z)) = w2 at *
    have hcc : stC 3 z c = (upd c 3 z) := by simp [stC]
    go_wp2_with (first | refine ld_nc rfl (.tmp 4) rfl _ rfl kN2 (by rfl) ?_ | (refine st_nc rfl (.tmp 8) (.tmp 99) rfl rfl (upd c 3 z) kR2 rfl (by rfl) (by rfl) ⟨_, _, _, rfl⟩ ?_; intro w3 kR3 o3))
    have g3 := o3.grew g2 LR.out
    exact bodyPost_ret (v := .tuple #[ncV (upd c 3 z) (.slice a 6 j), .bool true]) (results_nb (p := 8) (q := 9) Try.results16 _ _ R kR3 rfl) rfl ⟨a, j, by first | rw [hcc] | rfl, Lib.hid (HB.out.grew g3), g3⟩
  · have f4 := kN.free 4
    have x4 : w1.cell? ⟨N, 4, none⟩ = some (.int .i64 (c 4)) := kN.cell 4
    have f5 := kN.free 5
    have x5 : w1.cell? ⟨N, 5, none⟩ = some (.int .i64 (c 5)) := kN.cell 5
    have f6 := kN.free 6
    have x6 : w1.cell? ⟨N, 6, none⟩ = some (.int .i64 (c 6)) := kN.cell 6
    go_upto_region 29 with fail
    have kN2 : Blk (((w1.setCell ⟨N, 4, none⟩ (.int .i64 z)).setCell ⟨N, 5, none⟩ (.int .i64 0)).setCell ⟨N, 6, none⟩ (.int .i64 0)) N (ncA (upd (upd (upd c 4 z) 5 0) 6 0) (.slice a 6 j)) 25 := (((kN.nc (k := 4) (by decide) (by decide) (by decide) z).nc (k := 5) (by decide) (by decide) (by decide) 0).nc (k := 6) (by decide) (by decide) (by decide) 0)
    have g2 := (((g0.setCell (b := N) (o := 4) LN.out (.int .i64 z)).setCell (b := N) (o := 5) LN.out (.int .i64 0)).setCell (b := N) (o := 6) LN.out (.int .i64 0))
    have kR2 := (((kR.other (c := N) (o := 4) nNR.symm (.int .i64 z)).other (c := N) (o := 5) nNR.symm (.int .i64 0)).other (c := N) (o := 6) nNR.symm (.int .i64 0))
    clear f4 f5 f6
    generalize (((w1.setCell ⟨N, 4, none⟩ (.int .i64 z)).setCell ⟨N, 5, none⟩ (.int .i64 0)).setCell ⟨N, 6, none⟩ (.int .i64 0)) = w2 at *
    have hcc : stC 4 z c = (upd (upd (upd c 4 z) 5 0) 6 0) := by simp [stC, begint, hlz]
    go_wp2_with (first | refine ld_nc rfl (.tmp 4) rfl _ rfl kN2 (by rfl) ?_ | (refine st_nc rfl (.tmp 8) (.tmp 99) rfl rfl (upd (upd (upd c 4 z) 5 0) 6 0) kR2 rfl (by rfl) (by rfl) ⟨_, _, _, rfl⟩ ?_; intro w3 kR3 o3))
    have g3 := o3.grew g2 LR.out
    exact bodyPost_ret (v := .tuple #[ncV (upd (upd (upd c 4 z) 5 0) 6 0) (.slice a 6 j), .bool true]) (results_nb (p := 8) (q := 9) Try.results16 _ _ R kR3 rfl) rfl ⟨a, j, by first | rw [hcc] | rfl, Lib.hid (HB.out.grew g3), g3⟩
  · go_upto_region 29 with fail
    have kN2 := kN
    have g2 := g0
    have kR2 := kR
    have hcc : stC 5 z c = c := by simp [stC]
    go_wp2_with (first | refine ld_nc rfl (.tmp 4) rfl _ rfl kN2 (by rfl) ?_ | (refine st_nc rfl (.tmp 8) (.tmp 99) rfl rfl c kR2 rfl (by rfl) (by rfl) ⟨_, _, _, rfl⟩ ?_; intro w3 kR3 o3))
    have g3 := o3.grew g2 LR.out
    exact bodyPost_ret (v := .tuple #[ncV c (.slice a 6 j), .bool true]) (results_nb (p := 8) (q := 9) Try.results16 _ _ R kR3 rfl) rfl ⟨a, j, by first | rw [hcc] | rfl, Lib.hid (HB.out.grew g3), g3⟩
  · by_cases hcz : z < c 4
    · have y : w1.cell? ⟨N, 4, none⟩ = some (.int .i64 (c 4)) := kN.cell 4
      have f6 := kN.free 6
      have x6 : w1.cell? ⟨N, 6, none⟩ = some (.int .i64 (c 6)) := kN.cell 6
      go_upto_region 29 with fail
      have kN2 : Blk (w1.setCell ⟨N, 6, none⟩ (.int .i64 z)) N (ncA (upd c 6 z) (.slice a 6 j)) 25 := (kN.nc (k := 6) (by decide) (by decide) (by decide) z)
      have g2 := (g0.setCell (b := N) (o := 6) LN.out (.int .i64 z))
      have kR2 := (kR.other (c := N) (o := 6) nNR.symm (.int .i64 z))
      clear f6
      generalize (w1.setCell ⟨N, 6, none⟩ (.int .i64 z)) = w2 at *
      have hcc : stC 6 z c = (upd c 6 z) := by simp [stC, reacht, hcz]
      go_wp2_with (first | refine ld_nc rfl (.tmp 4) rfl _ rfl kN2 (by rfl) ?_ | (refine st_nc rfl (.tmp 8) (.tmp 99) rfl rfl (upd c 6 z) kR2 rfl (by rfl) (by rfl) ⟨_, _, _, rfl⟩ ?_; intro w3 kR3 o3))
      have g3 := o3.grew g2 LR.out
      exact bodyPost_ret (v := .tuple #[ncV (upd c 6 z) (.slice a 6 j), .bool true]) (results_nb (p := 8) (q := 9) Try.results16 _ _ R kR3 rfl) rfl ⟨a, j, by first | rw [hcc] | rfl, Lib.hid (HB.out.grew g3), g3⟩
    · have y : w1.cell? ⟨N, 4, none⟩ = some (.int .i64 (c 4)) := kN.cell 4
      go_upto_region 29 with fail
      have kN2 := kN
      have g2 := g0
      have kR2 := kR
      have hcc : stC 6 z c = c := by simp [stC, reacht, hcz]
      go_wp2_with (first | refine ld_nc rfl (.tmp 4) rfl _ rfl kN2 (by rfl) ?_ | (refine st_nc rfl (.tmp 8) (.tmp 99) rfl rfl c kR2 rfl (by rfl) (by rfl) ⟨_, _, _, rfl⟩ ?_; intro w3 kR3 o3))
      have g3 := o3.grew g2 LR.out
      exact bodyPost_ret (v := .tuple #[ncV c (.slice a 6 j), .bool true]) (results_nb (p := 8) (q := 9) Try.results16 _ _ R kR3 rfl) rfl ⟨a, j, by first | rw [hcc] | rfl, Lib.hid (HB.out.grew g3), g3⟩
  · have f7 := kN.free 7
    have x7 : w1.cell? ⟨N, 7, none⟩ = some (.int .u64 (c 7)) := kN.cell 7
    go_upto_region 29 with fail
    have kN2 : Blk (w1.setCell ⟨N, 7, none⟩ (.int .u64 z)) N (ncA (upd c 7 z) (.slice a 6 j)) 25 := (kN.set (o := 7) (.int .u64 z))
    have g2 := (g0.setCell (b := N) (o := 7) LN.out (.int .u64 z))
    have kR2 := (kR.other (c := N) (o := 7) nNR.symm (.int .u64 z))
    clear f7
    generalize (w1.setCell ⟨N, 7, none⟩ (.int .u64 z)) = w2 at *
    have hcc : stC 7 z c = (upd c 7 z) := by simp [stC]
    go_wp2_with (first | refine ld_nc rfl (.tmp 4) rfl _ rfl kN2 (by rfl) ?_ | (refine st_nc rfl (.tmp 8) (.tmp 99) rfl rfl (upd c 7 z) kR2 rfl (by rfl) (by rfl) ⟨_, _, _, rfl⟩ ?_; intro w3 kR3 o3))
    have g3 := o3.grew g2 LR.out
    exact bodyPost_ret (v := .tuple #[ncV (upd c 7 z) (.slice a 6 j), .bool true]) (results_nb (p := 8) (q := 9) Try.results16 _ _ R kR3 rfl) rfl ⟨a, j, by first | rw [hcc] | rfl, Lib.hid (HB.out.grew g3), g3⟩
  · have f8 := kN.free 8
    have x8 : w1.cell? ⟨N, 8, none⟩ = some (.int .i64 (c 8)) := kN.cell 8
    have f9 := kN.free 9
    have x9 : w1.cell? ⟨N, 9, none⟩ = some (.int .i64 (c 9)) := kN.cell 9
    have f10 := kN.free 10
    have x10 : w1.cell? ⟨N, 10, none⟩ = some (.int .i64 (c 10)) := kN.cell 10
    go_upto_region 29 with fail
    have kN2 : Blk (((w1.setCell ⟨N, 8, none⟩ (.int .i64 z)).setCell ⟨N, 9, none⟩ (.int .i64 0)).setCell ⟨N, 10, none⟩ (.int .i64 0)) N (ncA (upd (upd (upd c 8 z) 9 0) 10 0) (.slice a 6 j)) 25 := (((kN.nc (k := 8) (by decide) (by decide) (by decide) z).nc (k := 9) (by decide) (by decide) (by decide) 0).nc (k := 10) (by decide) (by decide) (by decide) 0)
    have g2 := (((g0.setCell (b := N) (o := 8) LN.out (.int .i64 z)).setCell (b := N) (o := 9) LN.out (.int .i64 0)).setCell (b := N) (o := 10) LN.out (.int .i64 0))
    have kR2 := (((kR.other (c := N) (o := 8) nNR.symm (.int .i64 z)).other (c := N) (o := 9) nNR.symm (.int .i64 0)).other (c := N) (o := 10) nNR.symm (.int .i64 0))
    clear f8 f9 f10
    generalize (((w1.setCell ⟨N, 8, none⟩ (.int .i64 z)).setCell ⟨N, 9, none⟩ (.int .i64 0)).setCell ⟨N, 10, none⟩ (.int .i64 0)) = w2 at *
    have hcc : stC 8 z c = (upd (upd (upd c 8 z) 9 0) 10 0) := by simp [stC, beginr, hlz]
    go_wp2_with (first | refine ld_nc rfl (.tmp 4) rfl _ rfl kN2 (by rfl) ?_ | (refine st_nc rfl (.tmp 8) (.tmp 99) rfl rfl (upd (upd (upd c 8 z) 9 0) 10 0) kR2 rfl (by rfl) (by rfl) ⟨_, _, _, rfl⟩ ?_; intro w3 kR3 o3))
    have g3 := o3.grew g2 LR.out
    exact bodyPost_ret (v := .tuple #[ncV (upd (upd (upd c 8 z) 9 0) 10 0) (.slice a 6 j), .bool true]) (results_nb (p := 8) (q := 9) Try.results16 _ _ R kR3 rfl) rfl ⟨a, j, by first | rw [hcc] | rfl, Lib.hid (HB.out.grew g3), g3⟩
  · go_upto_region 29 with fail
    have kN2 := kN
    have g2 := g0
    have kR2 := kR
    have hcc : stC 9 z c = c := by simp [stC]
    go_wp2_with (first | refine ld_nc rfl (.tmp 4) rfl _ rfl kN2 (by rfl) ?_ | (refine st_nc rfl (.tmp 8) (.tmp 99) rfl rfl c kR2 rfl (by rfl) (by rfl) ⟨_, _, _, rfl⟩ ?_; intro w3 kR3 o3))
    have g3 := o3.grew g2 LR.out
    exact bodyPost_ret (v := .tuple #[ncV c (.slice a 6 j), .bool true]) (results_nb (p := 8) (q := 9) Try.results16 _ _ R kR3 rfl) rfl ⟨a, j, by first | rw [hcc] | rfl, Lib.hid (HB.out.grew g3), g3⟩
  · by_cases hcz : z < c 8
    · have y : w1.cell? ⟨N, 8, none⟩ = some (.int .i64 (c 8)) := kN.cell 8
      have f10 := kN.free 10
      have x10 : w1.cell? ⟨N, 10, none⟩ = some (.int .i64 (c 10)) := kN.cell 10
      go_upto_region 29 with fail
      have kN2 : Blk (w1.setCell ⟨N, 10, none⟩ (.int .i64 z)) N (ncA (upd c 10 z) (.slice a 6 j)) 25 := (kN.nc (k := 10) (by decide) (by decide) (by decide) z)
      have g2 := (g0.setCell (b := N) (o := 10) LN.out (.int .i64 z))
      have kR2 := (kR.other (c := N) (o := 10) nNR.symm (.int .i64 z))
      clear f10
      generalize (w1.setCell ⟨N, 10, none⟩ (.int .i64 z)) = w2 at *
      have hcc : stC 10 z c = (upd c 10 z) := by simp [stC, reachr, hcz]
      go_wp2_with (first | refine ld_nc rfl (.tmp 4) rfl _ rfl kN2 (by rfl) ?_ | (refine st_nc rfl (.tmp 8) (.tmp 99) rfl rfl (upd c 10 z) kR2 rfl (by rfl) (by rfl) ⟨_, _, _, rfl⟩ ?_; intro w3 kR3 o3))
      have g3 := o3.grew g2 LR.out
      exact bodyPost_ret (v := .tuple #[ncV (upd c 10 z) (.slice a 6 j), .bool true]) (results_nb (p := 8) (q := 9) Try.results16 _ _ R kR3 rfl) rfl ⟨a, j, by first | rw [hcc] | rfl, Lib.hid (HB.out.grew g3), g3⟩
    · have y : w1.cell? ⟨N, 8, none⟩ = some (.int .i64 (c 8)) := kN.cell 8
      go_upto_region 29 with fail
      have kN2 := kN
      have g2 := g0
      have kR2 := kR
      have hcc : stC 10 z c = c := by simp [stC, reachr, hcz]
      go_wp2_with (first | refine ld_nc rfl (.tmp 4) rfl _ rfl kN2 (by rfl) ?_ | (refine st_nc rfl (.tmp 8) (.tmp 99) rfl rfl c kR2 rfl (by rfl) (by rfl) ⟨_, _, _, rfl⟩ ?_; intro w3 kR3 o3))
      have g3 := o3.grew g2 LR.out
      exact bodyPost_ret (v := .tuple #[ncV c (.slice a 6 j), .bool true]) (results_nb (p := 8) (q := 9) Try.results16 _ _ R kR3 rfl) rfl ⟨a, j, by first | rw [hcc] | rfl, Lib.hid (HB.out.grew g3), g3⟩
  · go_upto_region 29 with fail
    have kN2 := kN
    have g2 := g0
    have kR2 := kR
    have hcc : stC 11 z c = c := by simp [stC]
    go_wp2_with (first | refine ld_nc rfl (.tmp 4) rfl _ rfl kN2 (by rfl) ?_ | (refine st_nc rfl (.tmp 8) (.tmp 99) rfl rfl c kR2 rfl (by rfl) (by rfl) ⟨_, _, _, rfl⟩ ?_; intro w3 kR3 o3))
    have g3 := o3.grew g2 LR.out
    exact bodyPost_ret (v := .tuple #[ncV c (.slice a 6 j), .bool true]) (results_nb (p := 8) (q := 9) Try.results16 _ _ R kR3 rfl) rfl ⟨a, j, by first | rw [hcc] | rfl, Lib.hid (HB.out.grew g3), g3⟩
  · go_upto_region 29 with fail
    have kN2 := kN
    have g2 := g0
    have kR2 := kR
    have hcc : stC 12 z c = c := by simp [stC]
    go_wp2_with (first | refine ld_nc rfl (.tmp 4) rfl _ rfl kN2 (by rfl) ?_ | (refine st_nc rfl (.tmp 8) (.tmp 99) rfl rfl c kR2 rfl (by rfl) (by rfl) ⟨_, _, _, rfl⟩ ?_; intro w3 kR3 o3))
    have g3 := o3.grew g2 LR.out
    exact bodyPost_ret (v := .tuple #[ncV c (.slice a 6 j), .bool true]) (results_nb (p := 8) (q := 9) Try.results16 _ _ R kR3 rfl) rfl ⟨a, j, by first | rw [hcc] | rfl, Lib.hid (HB.out.grew g3), g3⟩
  · go_upto_region 29 with fail
    have kN2 := kN
    have g2 := g0
    have kR2 := kR
    have hcc : stC 13 z c = c := by simp [stC]
    go_wp2_with (first | refine ld_nc rfl (.tmp 4) rfl _ rfl kN2 (by rfl) ?_ | (refine st_nc rfl (.tmp 8) (.tmp 99) rfl rfl c kR2 rfl (by rfl) (by rfl) ⟨_, _, _, rfl⟩ ?_; intro w3 kR3 o3))
    have g3 := o3.grew g2 LR.out
    exact bodyPost_ret (v := .tuple #[ncV c (.slice a 6 j), .bool true]) (results_nb (p := 8) (q := 9) Try.results16 _ _ R kR3 rfl) rfl ⟨a, j, by first | rw [hcc] | rfl, Lib.hid (HB.out.grew g3), g3⟩
  · go_upto_region 29 with fail
    have kN2 := kN
    have g2 := g0
    have kR2 := kR
    have hcc : stC 14 z c = c := by simp [stC]
    go_wp2_with (first | refine ld_nc rfl (.tmp 4) rfl _ rfl kN2 (by rfl) ?_ | (refine st_nc rfl (.tmp 8) (.tmp 99) rfl rfl c kR2 rfl (by rfl) (by rfl) ⟨_, _, _, rfl⟩ ?_; intro w3 kR3 o3))
    have g3 := o3.grew g2 LR.out
    exact bodyPost_ret (v := .tuple #[ncV c (.slice a 6 j), .bool true]) (results_nb (p := 8) (q := 9) Try.results16 _ _ R kR3 rfl) rfl ⟨a, j, by first | rw [hcc] | rfl, Lib.hid (HB.out.grew g3), g3⟩
set_option maxHeartbeats 8000000 in
theorem rStore_c0 {c : Nat → Int} {m : List Int} {a : Option Addr} {j : Nat} {w : World} (hc : ROk c) (hm : MacIs c m) {x z : Int} (h0 : 0 ≤ x) (hz : x % 4294967296 = z) (r1 : 1 ≤ z) (r2 : ¬ z ≤ 64) {k : Nat} (hk : k < 15) (hB : Buf w (.slice a 6 j) m) : Calls Try.prog 16 #[ncV c (.slice a 6 j), .int .u64 (4 * (k : Int)), .int .i64 4, .int .u64 x] w fun e w' => ∃ b i, e = .returned (.tuple #[ncV (stC k z c) (.slice b 6 i), .bool true]) ∧ Hid (Buf w' (.slice b 6 i) m) ∧ Grew w w' := by
  have hL := Lib.hid (fun (w : World) (h : Buf w (.slice a 6 j) m) => rLoad_yes hc hm h hk)
  have HB := Lib.hid hB
  have HO := Lib.hid hc
  have HZZ : Hid (0 ≤ z ∧ z < 4294967296) := Lib.hid (by omega)
  have hx : x.tmod 4294967296 = z := by rw [Int.tmod_eq_emod_of_nonneg h0]; exact hz
  have q4 : (4 * (k : Int)).tdiv 4 = k := by rw [Int.tdiv_eq_ediv_of_nonneg (by omega)]; omega
  have wk : IntKind.u64.wrap (k : Int) = k := IntWalk.u64_in _ (by omega)
  have wz : IntKind.u64.wrap z = z := IntWalk.u64_in _ (by omega)
  have iz : IntKind.i64.wrap z = z := IntWalk.i64_in _ (by omega)
  have t8 : z.tmod 8 = z % 8 := Int.tmod_eq_emod_of_nonneg (by omega)
  have w8 : IntKind.u64.wrap (z % 8) = z % 8 := IntWalk.u64_in _ (by omega)
  have i8 : IntKind.i64.wrap (z % 8) = z % 8 := IntWalk.i64_in _ (by omega)
  have t16 : z.tmod 16 = z % 16 := Int.tmod_eq_emod_of_nonneg (by omega)
  have w16 : IntKind.u64.wrap (z % 16) = z % 16 := IntWalk.u64_in _ (by omega)
  have i16 : IntKind.i64.wrap (z % 16) = z % 16 := IntWalk.i64_in _ (by omega)
  have c4 : IntKind.u64.wrap (c 4) = c 4 := IntWalk.u64_in _ (by have := hc.r4; omega)
  have c8 : IntKind.u64.wrap (c 8) = c 8 := IntWalk.u64_in _ (by have := hc.r8; omega)
  have hlz : lenB z = false := by unfold lenB; simp; omega
  have HLZ := Lib.hid hlz
  clear hlz hB hc hm hz h0
  go_enter Try.func16, Try.ntmps16
  go_upto_region 1 with fail
  have kN : Blk ((w.alloc (.cells (ncA c (.slice a 6 j)) 25)).alloc (.cells zeroN 25)) w.heap.size (ncA c (.slice a 6 j)) 25 := (Blk.new _ _ _ _ rfl).alloc _
  have kR : Blk ((w.alloc (.cells (ncA c (.slice a 6 j)) 25)).alloc (.cells zeroN 25)) (w.heap.size + 1) zeroN 25 := Blk.new _ _ _ _ (by simp)
  have g0 : Grew w ((w.alloc (.cells (ncA c (.slice a 6 j)) 25)).alloc (.cells zeroN 25)) := ((Grew.refl w).alloc _).alloc _
  generalize ((w.alloc (.cells (ncA c (.slice a 6 j)) 25)).alloc (.cells zeroN 25)) = w0 at *
  have nNR : w.heap.size ≠ w.heap.size + 1 := by omega
  have lN : w.heap.size ≤ w.heap.size := Nat.le_refl _
  have lR : w.heap.size ≤ w.heap.size + 1 := Nat.le_succ _
  generalize w.heap.size + 1 = R at *
  generalize hZ : w.heap.size = N at *
  have HZ := Lib.hid hZ
  clear hZ
  have LN : Hid (w.heap.size ≤ N) := Lib.hid (by rw [HZ.out]; exact lN)
  have LR : Hid (w.heap.size ≤ R) := Lib.hid (by rw [HZ.out]; exact lR)
  clear lN lR
  go_wp2_with (refine ld_nc rfl (.tmp 4) rfl _ rfl kN (by rfl) ?_)
  refine (hL.out _ (HB.out.grew g0)).mono ?_
  rintro e w1 ⟨rfl, g1⟩
  replace kN := kN.grew g1
  replace kR := kR.grew g1
  replace g0 := g0.trans g1
  clear g1
  generalize hck : c k = ck at *
  clear hck
  go_upto_region 7 with fail
  clear q4 wk hx
  have hlz := HLZ.out
  rcases (show k = 0 ∨ k = 1 ∨ k = 2 ∨ k = 3 ∨ k = 4 ∨ k = 5 ∨ k = 6 ∨ k = 7 ∨ k = 8 ∨ k = 9 ∨ k = 10 ∨ k = 11 ∨ k = 12 ∨ k = 13 ∨ k = 14 by omega) with rfl | rfl | rfl | rfl | rfl | rfl | rfl | rfl | rfl | rfl | rfl | rfl | rfl | rfl | rfl
  · have f0 := kN.free 0
    have x0 : w1.cell? ⟨N, 0, none⟩ = some (.int .i64 (c 0)) := kN.cell 0
    go_upto_region 29 with fail
    have kN2 : Blk (w1.setCell ⟨N, 0, none⟩ (.int .i64 (z % 8))) N (ncA (upd c 0 (z % 8)) (.slice a 6 j)) 25 := (kN.nc (k := 0) (by decide) (by decide) (by decide) (z % 8))
    have g2 := (g0.setCell (b := N) (o := 0) LN.out (.int .i64 (z % 8)))
    have kR2 := (kR.other (c := N) (o := 0) nNR.symm (.int .i64 (z % 8)))
    clear f0
    generalize (w1.setCell ⟨N, 0, none⟩ (.int .i64 (z % 8))) = w2 at *
    have hcc : stC 0 z c = (upd c 0 (z % 8)) := by simp [stC]
    go_wp2_with (first | refine ld_nc rfl (.tmp 4) rfl _ rfl kN2 (by rfl) ?_ | (refine st_nc rfl (.tmp 8) (.tmp 99) rfl rfl (upd c 0 (z % 8)) kR2 rfl (by rfl) (by rfl) ⟨_, _, _, rfl⟩ ?_; intro w3 kR3 o3))
    have g3 := o3.grew g2 LR.out
    exact bodyPost_ret (v := .tuple #[ncV (upd c 0 (z % 8)) (.slice a 6 j), .bool true]) (results_nb (p := 8) (q := 9) Try.results16 _ _ R kR3 rfl) rfl ⟨a, j, by first | rw [hcc] | rfl, Lib.hid (HB.out.grew g3), g3⟩
  · have y : w1.cell? ⟨N, 1, none⟩ = some (.int .i64 (c 1)) := kN.cell 1
    have f1 := kN.free 1
    go_upto_region 29 with fail
    have kN2 : Blk (w1.setCell ⟨N, 1, none⟩ (.int .i64 (bits .andNot .i64 (c 1) (z % 16)))) N (ncA (upd c 1 (bits .andNot .i64 (c 1) (z % 16))) (.slice a 6 j)) 25 := (kN.nc (k := 1) (by decide) (by decide) (by decide) (bits .andNot .i64 (c 1) (z % 16)))
    have g2 := (g0.setCell (b := N) (o := 1) LN.out (.int .i64 (bits .andNot .i64 (c 1) (z % 16))))
    have kR2 := (kR.other (c := N) (o := 1) nNR.symm (.int .i64 (bits .andNot .i64 (c 1) (z % 16))))
    clear f1
    generalize (w1.setCell ⟨N, 1, none⟩ (.int .i64 (bits .andNot .i64 (c 1) (z % 16)))) = w2 at *
    have hcc : stC 1 z c = (upd c 1 (bits .andNot .i64 (c 1) (z % 16))) := by rw [clr_eq HO.out.r1.1 HO.out.r1.2 HZZ.out.1 HZZ.out.2]; simp [stC]
    go_wp2_with (first | refine ld_nc rfl (.tmp 4) rfl _ rfl kN2 (by rfl) ?_ | (refine st_nc rfl (.tmp 8) (.tmp 99) rfl rfl (upd c 1 (bits .andNot .i64 (c 1) (z % 16))) kR2 rfl (by rfl) (by rfl) ⟨_, _, _, rfl⟩ ?_; intro w3 kR3 o3))
    have g3 := o3.grew g2 LR.out
    exact bodyPost_ret (v := .tuple #[ncV (upd c 1 (bits .andNot .i64 (c 1) (z % 16))) (.slice a 6 j), .bool true]) (results_nb (p := 8) (q := 9) Try.results16 _ _ R kR3 rfl) rfl ⟨a, j, by first | rw [hcc] | rfl, Lib.hid (HB.out.grew g3), g3⟩
  · have f2 := kN.free 2
    have x2 : w1.cell? ⟨N, 2, none⟩ = some (.int .i64 (c 2)) := kN.cell 2
    go_upto_region 29 with fail
    have kN2 : Blk (w1.setCell ⟨N, 2, none⟩ (.int .i64 (z % 16))) N (ncA (upd c 2 (z % 16)) (.slice a 6 j)) 25 := (kN.nc (k := 2) (by decide) (by decide) (by decide) (z % 16))
    have g2 := (g0.setCell (b := N) (o := 2) LN.out (.int .i64 (z % 16)))
    have kR2 := (kR.other (c := N) (o := 2) nNR.symm (.int .i64 (z % 16)))
    clear f2
    generalize (w1.setCell ⟨N, 2, none⟩ (.int .i64 (z % 16))) = w2 at *
    have hcc : stC 2 z c = (upd c 2 (z % 16)) := by simp [stC]
    go_wp2_with (first | refine ld_nc rfl (.tmp 4) rfl _ rfl kN2 (by rfl) ?_ | (refine st_nc rfl (.tmp 8) (.tmp 99) rfl rfl (upd c 2 (z % 16)) kR2 rfl (by rfl) (by rfl) ⟨_, _, _, rfl⟩ ?_; intro w3 kR3 o3))
    have g3 := o3.grew g2 LR.out
    exact bodyPost_ret (v := .tuple #[ncV (upd c 2 (z % 16)) (.slice a 6 j), .bool true]) (results_nb (p := 8) (q := 9) Try.results16 _ _ R kR3 rfl) rfl ⟨a, j, by first | rw [hcc] | rfl, Lib.hid (HB.out.grew g3), g3⟩
  · have f3 := kN.free 3
    have x3 : w1.cell? ⟨N, 3, none⟩ = some (.int .u64 (c 3)) := kN.cell 3
    go_upto_region 29 with fail
    have kN2 : Blk (w1.setCell ⟨N, 3, none⟩ (.int .u64 z)) N (ncA (upd c 3 z) (.slice a 6 j)) 25 := (kN.set (o := 3) (.int .u64 z))
    have g2 := (g0.setCell (b := N) (o := 3) LN.out (.int .u64 z))
    have kR2 := (kR.other (c := N) (o := 3) nNR.symm (.int .u64 z))
    clear f3
    generalize (w1.setCell ⟨N, 3, none⟩ (.int .u64 z)) = w2 at *
    have hcc : stC 3 z c = (upd c 3 z) := by simp [stC]
    go_wp2_with (first | refine ld_nc rfl (.tmp 4) rfl _ rfl kN2 (by rfl) ?_ | (refine st_nc rfl (.tmp 8) (.tmp 99) rfl rfl (upd c 3 z) kR2 rfl (by rfl) (by rfl) ⟨_, _, _, rfl⟩ ?_; intro w3 kR3 o3))
    have g3 := o3.grew g2 LR.out
    exact bodyPost_ret (v := .tuple #[ncV (upd c 3 z) (.slice a 6 j), .bool true]) (results_nb (p := 8) (q := 9) Try.results16 _ _ R kR3 rfl) rfl ⟨a, j, by first | rw [hcc] | rfl, Lib.hid (HB.out.grew g3), g3⟩
  · go_upto_region 29 with fail
    have kN2 := kN
    have g2 := g0
    have kR2 := kR
    have hcc : stC 4 z c = c := by simp [stC, begint, hlz]
    go_wp2_with (first | refine ld_nc rfl (.tmp 4) rfl _ rfl kN2 (by rfl) ?_ | (refine st_nc rfl (.tmp 8) (.tmp 99) rfl rfl c kR2 rfl (by rfl) (by rfl) ⟨_, _, _, rfl⟩ ?_; intro w3 kR3 o3))
    have g3 := o3.grew g2 LR.out
    exact bodyPost_ret (v := .tuple #[ncV c (.slice a 6 j), .bool true]) (results_nb (p := 8) (q := 9) Try.results16 _ _ R kR3 rfl) rfl ⟨a, j, by first | rw [hcc] | rfl, Lib.hid (HB.out.grew g3), g3⟩
  · go_upto_region 29 with fail
    have kN2 := kN
    have g2 := g0
    have kR2 := kR
    have hcc : stC 5 z c = c := by simp [stC]
    go_wp2_with (first | refine ld_nc rfl (.tmp 4) rfl _ rfl kN2 (by rfl) ?_ | (refine st_nc rfl (.tmp 8) (.tmp 99) rfl rfl c kR2 rfl (by rfl) (by rfl) ⟨_, _, _, rfl⟩ ?_; intro w3 kR3 o3))
    have g3 := o3.grew g2 LR.out
    exact bodyPost_ret (v := .tuple #[ncV c (.slice a 6 j), .bool true]) (results_nb (p := 8) (q := 9) Try.results16 _ _ R kR3 rfl) rfl ⟨a, j, by first | rw [hcc] | rfl, Lib.hid (HB.out.grew g3), g3⟩
  · by_cases hcz : z < c 4
    · have y : w1.cell? ⟨N, 4, none⟩ = some (.int .i64 (c 4)) := kN.cell 4
      have f6 := kN.free 6
      have x6 : w1.cell? ⟨N, 6, none⟩ = some (.int .i64 (c 6)) := kN.cell 6
      go_upto_region 29 with fail
      have kN2 : Blk (w1.setCell ⟨N, 6, none⟩ (.int .i64 z)) N (ncA (upd c 6 z) (.slice a 6 j)) 25 := (kN.nc (k := 6) (by decide) (by decide) (by decide) z)
      have g2 := (g0.setCell (b := N) (o := 6) LN.out (.int .i64 z))
      have kR2 := (kR.other (c := N) (o := 6) nNR.symm (.int .i64 z))
      clear f6
      generalize (w1.setCell ⟨N, 6, none⟩ (.int .i64 z)) = w2 at *
      have hcc : stC 6 z c = (upd c 6 z) := by simp [stC, reacht, hcz]
      go_wp2_with (first | refine ld_nc rfl (.tmp 4) rfl _ rfl kN2 (by rfl) ?_ | (refine st_nc rfl (.tmp 8) (.tmp 99) rfl rfl (upd c 6 z) kR2 rfl (by rfl) (by rfl) ⟨_, _, _, rfl⟩ ?_; intro w3 kR3 o3))
      have g3 := o3.grew g2 LR.out
      exact bodyPost_ret (v := .tuple #[ncV (upd c 6 z) (.slice a 6 j), .bool true]) (results_nb (p := 8) (q := 9) Try.results16 _ _ R kR3 rfl) rfl ⟨a, j, by first | rw [hcc] | rfl, Lib.hid (HB.out.grew g3), g3⟩
    · have y : w1.cell? ⟨N, 4, none⟩ = some (.int .i64 (c 4)) := kN.cell 4
      go_upto_region 29 with fail
      have kN2 := kN
      have g2 := g0
      have kR2 := kR
      have hcc : stC 6 z c = c := by simp [stC, reacht, hcz]
      go_wp2_with (first | refine ld_nc rfl (.tmp 4) rfl _ rfl kN2 (by rfl) ?_ | (refine st_nc rfl (.tmp 8) (.tmp 99) rfl rfl c kR2 rfl (by rfl) (by rfl) ⟨_, _, _, rfl⟩ ?_; intro w3 kR3 o3))
      have g3 := o3.grew g2 LR.out
      exact bodyPost_ret (v := .tuple #[ncV c (.slice a 6 j), .bool true]) (results_nb (p := 8) (q := 9) Try.results16 _ _ R kR3 rfl) rfl ⟨a, j, by first | rw [hcc] | rfl, Lib.hid (HB.out.grew g3), g3⟩
  · have f7 := kN.free 7
    have x7 : w1.cell? ⟨N, 7, none⟩ = some (.int .u64 (c 7)) := kN.cell 7
    go_upto_region 29 with fail
    have kN2 : Blk (w1.setCell ⟨N, 7, none⟩ (.int .u64 z)) N (ncA (upd c 7 z) (.slice a 6 j)) 25 := (kN.set (o := 7) (.int .u64 z))
    have g2 := (g0.setCell (b := N) (o := 7) LN.out (.int .u64 z))
    have kR2 := (kR.other (c := N) (o := 7) nNR.symm (.int .u64 z))
    clear f7
    generalize (w1.setCell ⟨N, 7, none⟩ (.int .u64 z)) = w2 at *
    have hcc : stC 7 z c = (upd c 7 z) := by simp [stC]
    go_wp2_with (first | refine ld_nc rfl (.tmp 4) rfl _ rfl kN2 (by rfl) ?_ | (refine st_nc rfl (.tmp 8) (.tmp 99) rfl rfl (upd c 7 z) kR2 rfl (by rfl) (by rfl) ⟨_, _, _, rfl⟩ ?_; intro w3 kR3 o3))
    have g3 := o3.grew g2 LR.out
    exact bodyPost_ret (v := .tuple #[ncV (upd c 7 z) (.slice a 6 j), .bool true]) (results_nb (p := 8) (q := 9) Try.results16 _ _ R kR3 rfl) rfl ⟨a, j, by first | rw [hcc] | rfl, Lib.hid (HB.out.grew g3), g3⟩
  · go_upto_region 29 with fail
    have kN2 := kN
    have g2 := g0
    have kR2 := kR
    have hcc : stC 8 z c = c := by simp [stC, beginr, hlz]
    go_wp2_with (first | refine ld_nc rfl (.tmp 4) rfl _ rfl kN2 (by rfl) ?_ | (refine st_nc rfl (.tmp 8) (.tmp 99) rfl rfl c kR2 rfl (by rfl) (by rfl) ⟨_, _, _, rfl⟩ ?_; intro w3 kR3 o3))
    have g3 := o3.grew g2 LR.out
    exact bodyPost_ret (v := .tuple #[ncV c (.slice a 6 j), .bool true]) (results_nb (p := 8) (q := 9) Try.results16 _ _ R kR3 rfl) rfl ⟨a, j, by first | rw [hcc] | rfl, Lib.hid (HB.out.grew g3), g3⟩
  · go_upto_region 29 with fail
    have kN2 := kN
    have g2 := g0
    have kR2 := kR
    have hcc : stC 9 z c = c := by simp [stC]
    go_wp2_with (first | refine ld_nc rfl (.tmp 4) rfl _ rfl kN2 (by rfl) ?_ | (refine st_nc rfl (.tmp 8) (.tmp 99) rfl rfl c kR2 rfl (by rfl) (by rfl) ⟨_, _, _, rfl⟩ ?_; intro w3 kR3 o3))
    have g3 := o3.grew g2 LR.out
    exact bodyPost_ret (v := .tuple #[ncV c (.slice a 6 j), .bool true]) (results_nb (p := 8) (q := 9) Try.results16 _ _ R kR3 rfl) rfl ⟨a, j, by first | rw [hcc] | rfl, Lib.hid (HB.out.grew g3), g3⟩
  · by_cases hcz : z < c 8
    · have y : w1.cell? ⟨N, 8, none⟩ = some (.int .i64 (c 8)) := kN.cell 8
      have f10 := kN.free 10
      have x10 : w1.cell? ⟨N, 10, none⟩ = some (.int .i64 (c 10)) := kN.cell 10
      go_upto_region 29 with fail
      have kN2 : Blk (w1.setCell ⟨N, 10, none⟩ (.int .i64 z)) N (ncA (upd c 10 z) (.slice a 6 j)) 25 := (kN.nc (k := 10) (by decide) (by decide) (by decide) z)
      have g2 := (g0.setCell (b := N) (o := 10) LN.out (.int .i64 z))
      have kR2 := (kR.other (c := N) (o := 10) nNR.symm (.int .i64 z))
      clear f10
      generalize (w1.setCell ⟨N, 10, none⟩ (.int .i64 z)) = w2 at *
      have hcc : stC 10 z c = (upd c 10 z) := by simp [stC, reachr, hcz]
      go_wp2_with (first | refine ld_nc rfl (.tmp 4) rfl _ rfl kN2 (by rfl) ?_ | (refine st_nc rfl (.tmp 8) (.tmp 99) rfl rfl (upd c 10 z) kR2 rfl (by rfl) (by rfl) ⟨_, _, _, rfl⟩ ?_; intro w3 kR3 o3))
      have g3 := o3.grew g2 LR.out
      exact bodyPost_ret (v := .tuple #[ncV (upd c 10 z) (.slice a 6 j), .bool true]) (results_nb (p := 8) (q := 9) Try.results16 _ _ R kR3 rfl) rfl ⟨a, j, by first | rw [hcc] | rfl, Lib.hid (HB.out.grew g3), g3⟩
    · have y : w1.cell? ⟨N, 8, none⟩ = some (.int .i64 (c 8)) := kN.cell 8
      go_upto_region 29 with fail
      have kN2 := kN
      have g2 := g0
      have kR2 := kR
      have hcc : stC 10 z c = c := by simp [stC, reachr, hcz]
      go_wp2_with (first | refine ld_nc rfl (.tmp 4) rfl _ rfl kN2 (by rfl) ?_ | (refine st_nc rfl (.tmp 8) (.tmp 99) rfl rfl c kR2 rfl (by rfl) (by rfl) ⟨_, _, _, rfl⟩ ?_; intro w3 kR3 o3))
      have g3 := o3.grew g2 LR.out
      exact bodyPost_ret (v := .tuple #[ncV c (.slice a 6 j), .bool true]) (results_nb (p := 8) (q := 9) Try.results16 _ _ R kR3 rfl) rfl ⟨a, j, by first | rw [hcc] | rfl, Lib.hid (HB.out.grew g3), g3⟩
  · go_upto_region 29 with fail
    have kN2 := kN
    have g2 := g0
    have kR2 := kR
    have hcc : stC 11 z c = c := by simp [stC]
    go_wp2_with (first | refine ld_nc rfl (.tmp 4) rfl _ rfl kN2 (by rfl) ?_ | (refine st_nc rfl (.tmp 8) (.tmp 99) rfl rfl c kR2 rfl (by rfl) (by rfl) ⟨_, _, _, rfl⟩ ?_; intro w3 kR3 o3))
    have g3 := o3.grew g2 LR.out
    exact bodyPost_ret (v := .tuple #[ncV c (.slice a 6 j), .bool true]) (results_nb (p := 8) (q := 9) Try.results16 _ _ R kR3 rfl) rfl ⟨a, j, by first | rw [hcc] | rfl, Lib.hid (HB.out.grew g3), g3⟩
  · go_upto_region 29 with fail
    have kN2 := kN
    have g2 := g0
    have kR2 := kR
    have hcc : stC 12 z c = c := by simp [stC]
    go_wp2_with (first | refine ld_nc rfl (.tmp 4) rfl _ rfl kN2 (by rfl) ?_ | (refine st_nc rfl (.tmp 8) (.tmp 99) rfl rfl c kR2 rfl (by rfl) (by rfl) ⟨_, _, _, rfl⟩ ?_; intro w3 kR3 o3))
    have g3 := o3.grew g2 LR.out
    exact bodyPost_ret (v := .tuple #[ncV c (.slice a 6 j), .bool true]) (results_nb (p := 8) (q := 9) Try.results16 _ _ R kR3 rfl) rfl ⟨a, j, by first | rw [hcc] | rfl, Lib.hid (HB.out.grew g3), g3⟩
  · go_upto_region 29 with fail
    have kN2 := kN
    have g2 := g0
    have kR2 := kR
    have hcc : stC 13 z c = c := by simp [stC]
    go_wp2_with (first | refine ld_nc rfl (.tmp 4) rfl _ rfl kN2 (by rfl) ?_ | (refine st_nc rfl (.tmp 8) (.tmp 99) rfl rfl c kR2 rfl (by rfl) (by rfl) ⟨_, _, _, rfl⟩ ?_; intro w3 kR3 o3))
    have g3 := o3.grew g2 LR.out
    exact bodyPost_ret (v := .tuple #[ncV c (.slice a 6 j), .bool true]) (results_nb (p := 8) (q := 9) Try.results16 _ _ R kR3 rfl) rfl ⟨a, j, by first | rw [hcc] | rfl, Lib.hid (HB.out.grew g3), g3⟩
  · go_upto_region 29 with fail
    have kN2 := kN
    have g2 := g0
    have kR2 := kR
    have hcc : stC 14 z c = c := by simp [stC]
    go_wp2_with (first | refine ld_nc rfl (.tmp 4) rfl _ rfl kN2 (by rfl) ?_ | (refine st_nc rfl (.tmp 8) (.tmp 99) rfl rfl c kR2 rfl (by rfl) (by rfl) ⟨_, _, _, rfl⟩ ?_; intro w3 kR3 o3))
    have g3 := o3.grew g2 LR.out
    exact bodyPost_ret (v := .tuple #[ncV c (.slice a 6 j), .bool true]) (results_nb (p := 8) (q := 9) Try.results16 _ _ R kR3 rfl) rfl ⟨a, j, by first | rw [hcc] | rfl, Lib.hid (HB.out.grew g3), g3⟩
theorem rStore_c {c : Nat → Int} {m : List Int} (hm : MacOf c m) {a : Option Addr} {j : Nat} {off size x : Int} (h0 : 0 ≤ off) (hx : 0 ≤ x) {w : World} (hB : Buf w (.slice a m.length j) m) : Calls Try.prog 16 #[ncV c (.slice a m.length j), .int .u64 off, .int .i64 size, .int .u64 x] w fun e w' => ∃ b i, e = .returned (.tuple #[ncV (stS c m.length off size x) (.slice b m.length i), .bool (!badL c m.length off size)]) ∧ Hid (Buf w' (.slice b m.length i) m) ∧ Grew w w' := by
  unfold stS
  cases hb : badL c m.length off size
  · obtain ⟨h1, rfl, k, hk, rfl⟩ := badL_no h0 hb
    obtain ⟨hc, hi⟩ := chk_ok hm hB.ok h1
    have h6 := hi.1
    rw [h6] at hB ⊢
    rw [show (4 * (k : Int) / 4).toNat = k by omega]
    by_cases r1 : 1 ≤ x % 4294967296
    · by_cases r2 : x % 4294967296 ≤ 64
      · exact rStore_b hc hi hx rfl r1 r2 hk hB
      · exact rStore_c0 hc hi hx rfl r1 r2 hk hB
    · exact rStore_a hc hi hx rfl r1 hk hB
  · exact rStore_no off size x h0 hb hB
end Go.Proofs.Ytgcfmijkggpemaa
