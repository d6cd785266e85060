/-
  The statement that what is stored in memory is loaded, and that loading it changes nothing. For every board, address, size, number. Conditions: none.
-/
import Derived.Test.YtgcfmijkggpemaaGreatRows
import Derived.Test.YtgcfmijkggpemaaGreatBuM
import Derived.Test.YtgcfmijkggpemaaGreatLaw
import Derived.Deep.QuietTactic
import Derived.BigQuiet
import Derived.Deep.DeepCutAuto
set_option maxRecDepth 4000
set_option linter.unusedVariables false
set_option linter.unusedSimpArgs false
namespace Go.Proofs.YtgcfmijkggpemaaGreat.busKeeps
open Go.ChangeShapes Go.WideShapes Go.ChangeAt Go.RowKit
set_option maxHeartbeats 2000000 in
theorem walk_far (x : BX) (s : BS) (p n y : Int) (W : World) (hs : (decide (s.r.length ≤ 70000) && decide (s.u.i.length ≤ 5000) && decide (s.u.o.length ≤ 5000)) = false) : Calls Tryz.prog 4 #[bdV x s, .int .u64 p, .int .i64 n, .int .u64 y] W fun e w' => e = .returned (.bool true) ∧ Below W.heap.size W w' := by
  have hS := small_c (x := x) (s := s)
  rw [hs] at hS
  have HS := Lib.hid hS
  clear hS hs
  go_enter Tryz.func4, Tryz.ntmps4
  go_upto_region 1 with fail
  have kA : Blk (W.alloc (.cells (bdA x s) 36)) W.heap.size (bdA x s) 36 := Blk.new _ _ _ _ rfl
  have g0 : Grew W (W.alloc (.cells (bdA x s) 36)) := (Grew.refl W).alloc _
  generalize (W.alloc (.cells (bdA x s) 36)) = w0 at *
  have lA : W.heap.size ≤ W.heap.size := Nat.le_refl _
  generalize hZ : W.heap.size = A at *
  have HZ := Lib.hid hZ
  clear hZ lA
  go_wp2_with (refine ld_bd rfl (.tmp 4) rfl _ rfl kA (by rfl) ?_)
  refine (HS.out _).mono ?_
  rintro e w1 ⟨rfl, g1⟩
  replace kA := kA.grew g1
  replace g0 := g0.trans g1
  clear g1
  go_wp2_with fail
  refine (heads_c (Grew.refl _)).mono ?_
  rintro e wh ⟨rfl, gh⟩
  replace g0 := g0.trans gh
  go_wp2_with fail
  go_ret
  exact ⟨rfl, g0⟩
set_option maxHeartbeats 4000000 in
theorem walk_out (x : BX) (s : BS) (p n y : Int) (W : World) (hin : ∀ w, Calls Tryz.prog 10 #[.agg (rmP x s), .int .u64 p, .int .i64 n] w fun e w' => e = .returned (.bool false) ∧ Grew w w') (hs : (decide (s.r.length ≤ 70000) && decide (s.u.i.length ≤ 5000) && decide (s.u.o.length ≤ 5000)) = true) : Calls Tryz.prog 4 #[bdV x s, .int .u64 p, .int .i64 n, .int .u64 y] W fun e w' => e = .returned (.bool true) ∧ Below W.heap.size W w' := by
  have hS := small_c (x := x) (s := s)
  rw [hs] at hS
  have HS := Lib.hid hS
  have HI := Lib.hid hin
  clear hS hs hin
  go_enter Tryz.func4, Tryz.ntmps4
  go_upto_region 1 with fail
  have kA : Blk (W.alloc (.cells (bdA x s) 36)) W.heap.size (bdA x s) 36 := Blk.new _ _ _ _ rfl
  have g0 : Grew W (W.alloc (.cells (bdA x s) 36)) := (Grew.refl W).alloc _
  generalize (W.alloc (.cells (bdA x s) 36)) = w0 at *
  have lA : W.heap.size ≤ W.heap.size := Nat.le_refl _
  generalize hZ : W.heap.size = A at *
  have HZ := Lib.hid hZ
  clear hZ lA
  go_wp2_with (refine ld_bd rfl (.tmp 4) rfl _ rfl kA (by rfl) ?_)
  refine (HS.out _).mono ?_
  rintro e w1 ⟨rfl, g1⟩
  replace kA := kA.grew g1
  replace g0 := g0.trans g1
  clear g1
  go_wp2_with (first | refine fw_0 (by rfl) (.tmp 4) rfl _ rfl A (by rfl) ?_ | refine lw_rmP (by rfl) (.tmp 19) rfl _ rfl kA (by rfl) ?_)
  refine (HI.out _).mono ?_
  rintro e w2 ⟨rfl, g1⟩
  replace kA := kA.grew g1
  replace g0 := g0.trans g1
  clear g1
  go_wp2_with fail
  refine (heads_c (Grew.refl _)).mono ?_
  rintro e wh ⟨rfl, gh⟩
  replace g0 := g0.trans gh
  go_wp2_with fail
  go_ret
  exact ⟨rfl, g0⟩
set_option maxHeartbeats 8000000 in
theorem walk_no (x : BX) (s : BS) (p n y : Int) (s' : BS) (v : Int) (W : World) (hb : Bd W x s) (hn : n = 0 ∨ n = 3 ∨ n = 5 ∨ n = 6 ∨ n = 7 ∨ 9 ≤ n) (hy : 0 ≤ y ∧ y < 18446744073709551616) (hin : ∀ w, Calls Tryz.prog 10 #[.agg (rmP x s), .int .u64 p, .int .i64 n] w fun e w' => e = .returned (.bool true) ∧ Grew w w') (hst : ∀ w, Bd w x s → Calls Tryz.prog 8 #[bdV x s, .int .u64 p, .int .i64 n, .int .u64 y] w fun e w' => ∃ x', e = .returned (.tuple #[bdV x' s', .bool false]) ∧ Hid (Bdr w' x' s') ∧ Grew w w') (hld : ∀ w b, Bd w b s' → Calls Tryz.prog 11 #[bdV b s', .int .u64 p, .int .i64 n] w fun e w' => ∃ x', e = .returned (.tuple #[.int .u64 v, bdV x' s', .bool false]) ∧ Hid (Bdr w' x' s') ∧ Grew w w') (hs : (decide (s.r.length ≤ 70000) && decide (s.u.i.length ≤ 5000) && decide (s.u.o.length ≤ 5000)) = true) : Calls Tryz.prog 4 #[bdV x s, .int .u64 p, .int .i64 n, .int .u64 y] W fun e w' => e = .returned (.bool true) ∧ Below W.heap.size W w' := by
  have hS := small_c (x := x) (s := s)
  rw [hs] at hS
  have HS := Lib.hid hS
  have HI := Lib.hid hin
  have HST := Lib.hid hst
  have HLD := Lib.hid hld
  have HB := Lib.hid hb
  clear hS hs hin hst hld hb
  go_enter Tryz.func4, Tryz.ntmps4
  go_upto_region 1 with fail
  have kA : Blk (W.alloc (.cells (bdA x s) 36)) W.heap.size (bdA x s) 36 := Blk.new _ _ _ _ rfl
  have g0 : Grew W (W.alloc (.cells (bdA x s) 36)) := (Grew.refl W).alloc _
  generalize (W.alloc (.cells (bdA x s) 36)) = w0 at *
  have lA : W.heap.size ≤ W.heap.size := Nat.le_refl _
  generalize hZ : W.heap.size = A at *
  have HZ := Lib.hid hZ
  clear hZ lA
  go_wp2_with (refine ld_bd rfl (.tmp 4) rfl _ rfl kA (by rfl) ?_)
  refine (HS.out _).mono ?_
  rintro e w1 ⟨rfl, g1⟩
  replace kA := kA.grew g1
  replace g0 := g0.trans g1
  clear g1
  go_wp2_with (first | refine fw_0 (by rfl) (.tmp 4) rfl _ rfl A (by rfl) ?_ | refine lw_rmP (by rfl) (.tmp 19) rfl _ rfl kA (by rfl) ?_)
  refine (HI.out _).mono ?_
  rintro e w2 ⟨rfl, g1⟩
  replace kA := kA.grew g1
  replace g0 := g0.trans g1
  clear g1
  go_wp2_with (refine ld_bd rfl (.tmp 4) rfl _ rfl kA (by rfl) ?_)
  refine (HST.out _ (HB.out.grew g0)).mono ?_
  rintro e w3 ⟨x1, rfl, H1, g1⟩
  replace kA := kA.grew g1
  replace g0 := g0.trans g1
  clear g1 kA
  have lS := g0.size
  go_upto_region 4 with (refine st_bd rfl (.tmp 9) (.tmp 33) rfl rfl x1 s' (Blk.new w3 zeroB 36 _ rfl) rfl (by rfl) (by rfl) ?_; intro w4 kC oo)
  have kz : Blk (w3.alloc (.cells zeroB 36)) w3.heap.size zeroB 36 := Blk.new _ _ _ _ rfl
  replace g0 : Grew W w4 := oo.grew (g0.alloc _) lS
  have LC : Hid (W.heap.size ≤ w3.heap.size) := Lib.hid lS
  replace H1 := Lib.hid ((H1.out.grew ((Grew.refl w3).alloc _)).only oo kz nb_zero (by decide))
  clear oo kz lS
  generalize w3.heap.size = C at *
  go_wp2_with (refine ld_bd rfl (.tmp 9) rfl _ rfl kC (by rfl) ?_)
  refine (HLD.out _ _ H1.out.bd).mono ?_
  rintro e w5 ⟨x2, rfl, H2, g1⟩
  replace kC := kC.grew g1
  replace H1 := Lib.hid (H1.out.grew g1)
  replace g0 := g0.trans g1
  clear g1
  have lS := g0.size
  have lC := kC.lt
  go_upto_region 5 with (refine st_bd rfl (.tmp 12) (.tmp 41) rfl rfl x2 s' (Blk.new w5 zeroB 36 _ rfl) rfl (by rfl) (by rfl) ?_; intro w6 kD oo)
  have kz : Blk (w5.alloc (.cells zeroB 36)) w5.heap.size zeroB 36 := Blk.new _ _ _ _ rfl
  replace kC := (kC.alloc (.cells zeroB 36)).only oo (by omega)
  have nCD : C ≠ w5.heap.size := by omega
  clear lC
  replace g0 : Grew W w6 := oo.grew (g0.alloc _) lS
  have LD : Hid (W.heap.size ≤ w5.heap.size) := Lib.hid lS
  replace H1 := Lib.hid ((H1.out.grew ((Grew.refl w5).alloc _)).only oo kz nb_zero (by decide))
  replace H2 := Lib.hid ((H2.out.grew ((Grew.refl w5).alloc _)).only oo kz nb_zero (by decide))
  clear oo kz lS
  generalize w5.heap.size = D at *
  have hy0 := hy.1
  have m3 : y.tmod 16777216 = y % 16777216 := Int.tmod_eq_emod_of_nonneg hy0
  have m5 : y.tmod 1099511627776 = y % 1099511627776 := Int.tmod_eq_emod_of_nonneg hy0
  have m6 : y.tmod 281474976710656 = y % 281474976710656 := Int.tmod_eq_emod_of_nonneg hy0
  have m7 : y.tmod 72057594037927936 = y % 72057594037927936 := Int.tmod_eq_emod_of_nonneg hy0
  have r3 : IntKind.u64.wrap (y % 16777216) = y % 16777216 := IntWalk.u64_in _ (by omega)
  have r5 : IntKind.u64.wrap (y % 1099511627776) = y % 1099511627776 := IntWalk.u64_in _ (by omega)
  have r6 : IntKind.u64.wrap (y % 281474976710656) = y % 281474976710656 := IntWalk.u64_in _ (by omega)
  have r7 : IntKind.u64.wrap (y % 72057594037927936) = y % 72057594037927936 := IntWalk.u64_in _ (by omega)
  clear hy hy0
  rcases hn with rfl | rfl | rfl | rfl | rfl | hn
  · go_wp2_with fail
    refine (heads_c (Grew.refl _)).mono ?_
    rintro e wh ⟨rfl, gh⟩
    replace g0 := g0.trans gh
    go_wp2_with fail
    go_ret
    exact ⟨rfl, g0⟩
  · go_wp2_with fail
    refine (heads_c (Grew.refl _)).mono ?_
    rintro e wh ⟨rfl, gh⟩
    replace g0 := g0.trans gh
    go_wp2_with fail
    go_ret
    exact ⟨rfl, g0⟩
  · go_wp2_with fail
    refine (heads_c (Grew.refl _)).mono ?_
    rintro e wh ⟨rfl, gh⟩
    replace g0 := g0.trans gh
    go_wp2_with fail
    go_ret
    exact ⟨rfl, g0⟩
  · go_wp2_with fail
    refine (heads_c (Grew.refl _)).mono ?_
    rintro e wh ⟨rfl, gh⟩
    replace g0 := g0.trans gh
    go_wp2_with fail
    go_ret
    exact ⟨rfl, g0⟩
  · go_wp2_with fail
    refine (heads_c (Grew.refl _)).mono ?_
    rintro e wh ⟨rfl, gh⟩
    replace g0 := g0.trans gh
    go_wp2_with fail
    go_ret
    exact ⟨rfl, g0⟩
  · have h8 : ¬ n < 8 := by omega
    go_wp2_with fail
    refine (heads_c (Grew.refl _)).mono ?_
    rintro e wh ⟨rfl, gh⟩
    replace g0 := g0.trans gh
    go_wp2_with fail
    go_ret
    exact ⟨rfl, g0⟩
set_option maxHeartbeats 8000000 in
theorem walk_yes (x : BX) (s : BS) (p n y : Int) (s' : BS) (v : Int) (W : World) (hb : Bd W x s) (hn : (n = 1 ∧ v = y % 256) ∨ (n = 2 ∧ v = y % 65536) ∨ (n = 4 ∧ v = y % 4294967296) ∨ (n = 8 ∧ v = y)) (hy : 0 ≤ y ∧ y < 18446744073709551616) (hin : ∀ w, Calls Tryz.prog 10 #[.agg (rmP x s), .int .u64 p, .int .i64 n] w fun e w' => e = .returned (.bool true) ∧ Grew w w') (hst : ∀ w, Bd w x s → Calls Tryz.prog 8 #[bdV x s, .int .u64 p, .int .i64 n, .int .u64 y] w fun e w' => ∃ x', e = .returned (.tuple #[bdV x' s', .bool true]) ∧ Hid (Bdr w' x' s') ∧ Grew w w') (hld : ∀ w b, Bd w b s' → Calls Tryz.prog 11 #[bdV b s', .int .u64 p, .int .i64 n] w fun e w' => ∃ x', e = .returned (.tuple #[.int .u64 v, bdV x' s', .bool true]) ∧ Hid (Bdr w' x' s') ∧ Grew w w') (hs : (decide (s.r.length ≤ 70000) && decide (s.u.i.length ≤ 5000) && decide (s.u.o.length ≤ 5000)) = true) : Calls Tryz.prog 4 #[bdV x s, .int .u64 p, .int .i64 n, .int .u64 y] W fun e w' => e = .returned (.bool true) ∧ Below W.heap.size W w' := by
  have hS := small_c (x := x) (s := s)
  rw [hs] at hS
  have HS := Lib.hid hS
  have HI := Lib.hid hin
  have HST := Lib.hid hst
  have HLD := Lib.hid hld
  have HB := Lib.hid hb
  clear hS hs hin hst hld hb
  go_enter Tryz.func4, Tryz.ntmps4
  go_upto_region 1 with fail
  have kA : Blk (W.alloc (.cells (bdA x s) 36)) W.heap.size (bdA x s) 36 := Blk.new _ _ _ _ rfl
  have g0 : Grew W (W.alloc (.cells (bdA x s) 36)) := (Grew.refl W).alloc _
  generalize (W.alloc (.cells (bdA x s) 36)) = w0 at *
  have lA : W.heap.size ≤ W.heap.size := Nat.le_refl _
  generalize hZ : W.heap.size = A at *
  have HZ := Lib.hid hZ
  clear hZ lA
  go_wp2_with (refine ld_bd rfl (.tmp 4) rfl _ rfl kA (by rfl) ?_)
  refine (HS.out _).mono ?_
  rintro e w1 ⟨rfl, g1⟩
  replace kA := kA.grew g1
  replace g0 := g0.trans g1
  clear g1
  go_wp2_with (first | refine fw_0 (by rfl) (.tmp 4) rfl _ rfl A (by rfl) ?_ | refine lw_rmP (by rfl) (.tmp 19) rfl _ rfl kA (by rfl) ?_)
  refine (HI.out _).mono ?_
  rintro e w2 ⟨rfl, g1⟩
  replace kA := kA.grew g1
  replace g0 := g0.trans g1
  clear g1
  go_wp2_with (refine ld_bd rfl (.tmp 4) rfl _ rfl kA (by rfl) ?_)
  refine (HST.out _ (HB.out.grew g0)).mono ?_
  rintro e w3 ⟨x1, rfl, H1, g1⟩
  replace kA := kA.grew g1
  replace g0 := g0.trans g1
  clear g1 kA
  have lS := g0.size
  go_upto_region 4 with (refine st_bd rfl (.tmp 9) (.tmp 33) rfl rfl x1 s' (Blk.new w3 zeroB 36 _ rfl) rfl (by rfl) (by rfl) ?_; intro w4 kC oo)
  have kz : Blk (w3.alloc (.cells zeroB 36)) w3.heap.size zeroB 36 := Blk.new _ _ _ _ rfl
  replace g0 : Grew W w4 := oo.grew (g0.alloc _) lS
  have LC : Hid (W.heap.size ≤ w3.heap.size) := Lib.hid lS
  replace H1 := Lib.hid ((H1.out.grew ((Grew.refl w3).alloc _)).only oo kz nb_zero (by decide))
  clear oo kz lS
  generalize w3.heap.size = C at *
  go_wp2_with (refine ld_bd rfl (.tmp 9) rfl _ rfl kC (by rfl) ?_)
  refine (HLD.out _ _ H1.out.bd).mono ?_
  rintro e w5 ⟨x2, rfl, H2, g1⟩
  replace kC := kC.grew g1
  replace H1 := Lib.hid (H1.out.grew g1)
  replace g0 := g0.trans g1
  clear g1
  have lS := g0.size
  have lC := kC.lt
  go_upto_region 5 with (refine st_bd rfl (.tmp 12) (.tmp 41) rfl rfl x2 s' (Blk.new w5 zeroB 36 _ rfl) rfl (by rfl) (by rfl) ?_; intro w6 kD oo)
  have kz : Blk (w5.alloc (.cells zeroB 36)) w5.heap.size zeroB 36 := Blk.new _ _ _ _ rfl
  replace kC := (kC.alloc (.cells zeroB 36)).only oo (by omega)
  have nCD : C ≠ w5.heap.size := by omega
  clear lC
  replace g0 : Grew W w6 := oo.grew (g0.alloc _) lS
  have LD : Hid (W.heap.size ≤ w5.heap.size) := Lib.hid lS
  replace H1 := Lib.hid ((H1.out.grew ((Grew.refl w5).alloc _)).only oo kz nb_zero (by decide))
  replace H2 := Lib.hid ((H2.out.grew ((Grew.refl w5).alloc _)).only oo kz nb_zero (by decide))
  clear oo kz lS
  generalize w5.heap.size = D at *
  have hy0 := hy.1
  have m1 : y.tmod 256 = y % 256 := Int.tmod_eq_emod_of_nonneg hy0
  have m2 : y.tmod 65536 = y % 65536 := Int.tmod_eq_emod_of_nonneg hy0
  have m4 : y.tmod 4294967296 = y % 4294967296 := Int.tmod_eq_emod_of_nonneg hy0
  have r1 : IntKind.u64.wrap (y % 256) = y % 256 := IntWalk.u64_in _ (by omega)
  have r2 : IntKind.u64.wrap (y % 65536) = y % 65536 := IntWalk.u64_in _ (by omega)
  have r4 : IntKind.u64.wrap (y % 4294967296) = y % 4294967296 := IntWalk.u64_in _ (by omega)
  clear hy hy0
  rcases hn with ⟨rfl, rfl⟩ | ⟨rfl, rfl⟩ | ⟨rfl, rfl⟩ | ⟨rfl, rfl⟩
  · go_wp2_with (first | refine lw_bd (by rfl) (.tmp 12) rfl _ rfl kD (by rfl) ?_ | refine lw_bd (by rfl) (.tmp 9) rfl _ rfl kC (by rfl) ?_)
    refine (Same_c H2.out.bd H1.out.bd).mono ?_
    rintro e w7 ⟨rfl, g1⟩
    replace g0 := g0.trans g1
    go_wp2_with fail
    refine (heads_c (Grew.refl _)).mono ?_
    rintro e wh ⟨rfl, gh⟩
    replace g0 := g0.trans gh
    go_wp2_with fail
    go_ret
    exact ⟨rfl, g0⟩
  · go_wp2_with (first | refine lw_bd (by rfl) (.tmp 12) rfl _ rfl kD (by rfl) ?_ | refine lw_bd (by rfl) (.tmp 9) rfl _ rfl kC (by rfl) ?_)
    refine (Same_c H2.out.bd H1.out.bd).mono ?_
    rintro e w7 ⟨rfl, g1⟩
    replace g0 := g0.trans g1
    go_wp2_with fail
    refine (heads_c (Grew.refl _)).mono ?_
    rintro e wh ⟨rfl, gh⟩
    replace g0 := g0.trans gh
    go_wp2_with fail
    go_ret
    exact ⟨rfl, g0⟩
  · go_wp2_with (first | refine lw_bd (by rfl) (.tmp 12) rfl _ rfl kD (by rfl) ?_ | refine lw_bd (by rfl) (.tmp 9) rfl _ rfl kC (by rfl) ?_)
    refine (Same_c H2.out.bd H1.out.bd).mono ?_
    rintro e w7 ⟨rfl, g1⟩
    replace g0 := g0.trans g1
    go_wp2_with fail
    refine (heads_c (Grew.refl _)).mono ?_
    rintro e wh ⟨rfl, gh⟩
    replace g0 := g0.trans gh
    go_wp2_with fail
    go_ret
    exact ⟨rfl, g0⟩
  · go_wp2_with (first | refine lw_bd (by rfl) (.tmp 12) rfl _ rfl kD (by rfl) ?_ | refine lw_bd (by rfl) (.tmp 9) rfl _ rfl kC (by rfl) ?_)
    refine (Same_c H2.out.bd H1.out.bd).mono ?_
    rintro e w7 ⟨rfl, g1⟩
    replace g0 := g0.trans g1
    go_wp2_with fail
    refine (heads_c (Grew.refl _)).mono ?_
    rintro e wh ⟨rfl, gh⟩
    replace g0 := g0.trans gh
    go_wp2_with fail
    go_ret
    exact ⟨rfl, g0⟩
theorem walk (x : BX) (s : BS) (p : Int) (hp : 0 ≤ p ∧ p < 18446744073709551616) (n : Int) (hn : -9223372036854775808 ≤ n ∧ n ≤ 9223372036854775807) (y : Int) (hy : 0 ≤ y ∧ y < 18446744073709551616) (W : World) (hb : Bd W x s) (mo : MacOf s.c s.m) (bT : 0 ≤ s.T ∧ s.T < 18446744073709551616) (bC : 0 ≤ s.C ∧ s.C < 18446744073709551616) (f : s.p.Fits ∧ s.m.length ≤ 140737488355328) : Calls Tryz.prog 4 #[bdV x s, .int .u64 p, .int .i64 n, .int .u64 y] W fun e w' => e = .returned (.bool true) ∧ Below W.heap.size W w' := by
  cases hs : (decide (s.r.length ≤ 70000) && decide (s.u.i.length ≤ 5000) && decide (s.u.o.length ≤ 5000))
  · exact walk_far x s p n y W hs
  · obtain ⟨h1, h2, h3⟩ := small_false hs
    have ok := bok_of bT bC f h1 h2 h3
    have hI : ∀ b c : Int, inB p b c = (decide (b ≤ p) && decide (p - b < c)) := fun _ _ => rfl
    have hin := fun w => refInside_c x.ra s.r.length x.rc p n (by unfold maxLen; omega) hp.1 hp.2 hn.1 hn.2 w
    cases hi : insideV s.r.length p n
    · rw [hi] at hin
      exact walk_out x s p n y W hin hs
    · rw [hi] at hin
      have hb2 : 2147483648 ≤ p ∧ 0 ≤ n := by
        unfold insideV at hi
        simp only [decide_eq_true_eq] at hi
        omega
      have i0 : inB p 33554432 65536 = false := by rw [hI]; simp; omega
      have i1 : inB p 201326592 4194304 = false := by rw [hI]; simp; omega
      have i2 : inB p 268435456 8 = false := by rw [hI]; simp; omega
      have i3 : inB p 268439552 256 = false := by rw [hI]; simp; omega
      have ok2 : BOk { s with r := writeV s.r p n y } := ⟨by show (writeV s.r p n y).length ≤ _; rw [writeV_length]; exact ok.r, ok.pr, ok.en, ok.th, ok.i, ok.o, ok.m, ok.T, ok.C⟩
      have hst := fun (w : World) (h : Bd w x s) => store_ram (n := n) (y := y) ok h hp.1 hp.2 hy.1 hy.2 i0 i1 i2 i3
      have hld := fun (w : World) (b : BX) (h : Bd w b { s with r := writeV s.r p n y }) => loadRam_c (n := n) ok2 h hp.1 hp.2 hn.1 hn.2 i0 i1 i2 i3
      have el : (writeV s.r p n y).length = s.r.length := writeV_length _ _ _ _
      cases hz : sizeV n
      · have e1 : (sizeV n && insideV s.r.length p n) = false := by rw [hz]; rfl
        have e2 : (sizeV n && insideV ({ s with r := writeV s.r p n y } : BS).r.length p n) = false := by rw [hz]; rfl
        rw [e1] at hst
        rw [e2] at hld
        refine walk_no x s p n y _ _ W hb ?_ hy hin hst hld hs
        unfold sizeV at hz
        simp only [decide_eq_false_iff_not] at hz
        omega
      · have e1 : (sizeV n && insideV s.r.length p n) = true := by rw [hz, hi]; rfl
        have e2 : (sizeV n && insideV ({ s with r := writeV s.r p n y } : BS).r.length p n) = true := by show (sizeV n && insideV (writeV s.r p n y).length p n) = true; rw [el, hz, hi]; rfl
        rw [e1] at hst
        rw [e2] at hld
        refine walk_yes x s p n y _ _ W hb ?_ hy hin hst hld hs
        show (n = 1 ∧ readV (writeV s.r p n y) p n = y % 256) ∨ (n = 2 ∧ readV (writeV s.r p n y) p n = y % 65536) ∨ (n = 4 ∧ readV (writeV s.r p n y) p n = y % 4294967296) ∨ (n = 8 ∧ readV (writeV s.r p n y) p n = y)
        have hz2 := hz
        unfold sizeV at hz2
        simp only [decide_eq_true_eq] at hz2
        rcases hz2 with rfl | rfl | rfl | rfl
        · exact .inl ⟨rfl, read_write (n := 1) hz hi (by omega)⟩
        · exact .inr (.inl ⟨rfl, read_write (n := 2) hz hi (by omega)⟩)
        · exact .inr (.inr (.inl ⟨rfl, read_write (n := 4) hz hi (by omega)⟩))
        · refine .inr (.inr (.inr ⟨rfl, ?_⟩))
          have := read_write (n := 8) (y := y) hz hi (by omega)
          refine this.trans ?_
          have e : (2 : Int) ^ (8 * 8) = 18446744073709551616 := by decide
          rw [e]
          omega
set_option maxRecDepth 100000 in
theorem lifted (os : Os) (started : os.Started) (H : Type) (enc : TypeId × Value → H) :
    ReturnsInHanded {} Tryz.checked os 4 .any (Rows.busKeepsSpec.pre6 enc Tryz.prog Tryz.f4 Rows.busKeepsRow.domain false) (Rows.busKeepsSpec.post enc Tryz.prog Tryz.f4 false true false false) := by
  refine returnsInHanded_of_change_sized (C := Tryz.checked) own started (by kernel_rfl) Tryz.func4
    (ChangeSpec.witness6 (enc := enc) (C := Tryz.checked) false ⟨#[], #[.agg #[.slice none 0 0, .int .u64 0, .int .u64 0, .bool false, .slice none 0 0, .int .i64 0, .int .i64 0, .slice none 0 0, .slice none 0 0, .slice none 0 0, .slice none 0 0, .int .i64 0, .int .i64 0, .int .i64 0, .int .i64 0, .int .i64 0, .int .u64 0, .int .i64 0, .int .i64 0, .int .i64 0, .int .u64 0, .int .i64 0, .int .i64 0, .int .i64 0, .int .i64 0, .int .i64 0, .slice none 0 0], .int .u64 0, .int .i64 0, .int .u64 0], []⟩ 8 (by kernel_rfl) (by kernel_rfl) (by kernel_rfl) (by kernel_rfl)) ?_
  intro W base args ds gs before hval0 hW _ hz0 _
  have hval : ∀ (j : Nat) t v, Tryz.f4.params[j]? = some t → args[j]? = some v → Value.okWide Tryz.prog W .any base t v := hval0
  have hW' := hW
  obtain ⟨p, q, hA0, hV, rfl, hfz, hnd⟩ := hW
  have hA : DataW.TrodAll enc Tryz.prog W 0 (fun _ => true) true Tryz.f4.params.toList args.toList ds p := hA0
  rw [Tryz.params4] at hA hval
  obtain ⟨v0, vs0, d0, ds0, p0, q0, hargs, rfl, rfl, h0, r'0⟩ := trodAll_cons hA
  obtain ⟨v1, vs1, d1, ds1, p1, q1, rfl, rfl, rfl, h1, r'1⟩ := trodAll_cons r'0
  obtain ⟨v2, vs2, d2, ds2, p2, q2, rfl, rfl, rfl, h2, r'2⟩ := trodAll_cons r'1
  obtain ⟨v3, vs3, d3, ds3, p3, q3, rfl, rfl, rfl, h3, r'3⟩ := trodAll_cons r'2
  obtain ⟨rfl, rfl, rfl⟩ := trodAll_nil r'3
  obtain rfl : args = #[v0, v1, v2, v3] := by cases args; simp_all
  obtain ⟨x0, s0, rfl, k0, mo0, bt0, bc0, f0⟩ := open_board (hval 0 36 v0 rfl rfl) h0
  have fits0 := f0 (fun m hm => by simpa using List.all_eq_true.1 hz0 _ (DataW.weights_mem_each (j := 0) (t := 36) rfl rfl m hm))
  obtain ⟨a1, rfl, rfl, rfl, w1⟩ := open_int Tryz.underlying25 (hval 1 25 v1 rfl rfl) h1
  obtain ⟨a2, rfl, rfl, rfl, w2⟩ := open_int Tryz.underlying3 (hval 2 3 v2 rfl rfl) h2
  obtain ⟨a3, rfl, rfl, rfl, w3⟩ := open_int Tryz.underlying25 (hval 3 25 v3 rfl rfl) h3
  refine (walk x0 s0 a1 (wf_u64 w1) a2 (wf_i64 w2) a3 (wf_u64 w3) W k0 mo0 bt0 bc0 fits0).mono fun e W' ⟨he, hb⟩ => ?_
  subst he
  exact ⟨_, rfl, law_post hW' rfl rfl laid (by kernel_rfl) rfl Tryz.underlying4 hb⟩

theorem over : Rows.busKeepsRow.holds Tryz.pinned (OpenSpec.ofChange Rows.busKeepsSpec) :=
  OpenClaim.holds_of_wide 4 Tryz.f4 rfl rfl rfl rfl rfl rfl rfl ⟨rfl, rfl, rfl, rfl, rfl⟩ rfl rfl rfl rfl rfl (by kernel_rfl) Tryz.func4 (by kernel_rfl)
    (of_decide_eq_true (by kernel_rfl)) (by unfold Func.isWrapper; first | (rw [if_pos (by decide +kernel)]; kernel_rfl) | (rw [if_neg (by decide +kernel)]; exact ⟨rfl, rfl⟩))
    (fun os started H enc _ => lifted os started H enc)

theorem proved : Rows.BusKeepsSaid := over
#print axioms proved
end Go.Proofs.YtgcfmijkggpemaaGreat.busKeeps
