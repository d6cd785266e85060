/-
  The statement that a Store changes at most the one device that its address is of, and one that is not done nothing. For every board, address, size, number. Conditions: none.
-/
import Derived.Test.YtgcfmijkggpemaaGreatRows
import Derived.Test.YtgcfmijkggpemaaGreatBuM
import Derived.Test.YtgcfmijkggpemaaGreatLaw
import Derived.Deep.QuietTactic
import Derived.BigQuiet
import Derived.Deep.DeepCutAuto
set_option maxRecDepth 4000
set_option linter.unusedVariables false
set_option linter.unusedSimpArgs false
namespace Go.Proofs.YtgcfmijkggpemaaGreat.busApart
open Go.ChangeShapes Go.WideShapes Go.ChangeAt Go.RowKit
set_option maxHeartbeats 2000000 in
theorem walk_far (x : BX) (s : BS) (p n y : Int) (W : World) (hs : (decide (s.r.length ≤ 70000) && decide (s.u.i.length ≤ 5000) && decide (s.u.o.length ≤ 5000)) = false) : Calls Tryz.prog 3 #[bdV x s, .int .u64 p, .int .i64 n, .int .u64 y] W fun e w' => e = .returned (.bool true) ∧ Below W.heap.size W w' := by
  have hS := small_c (x := x) (s := s)
  rw [hs] at hS
  have HS := Lib.hid hS
  clear hS hs
  go_enter Tryz.func3, Tryz.ntmps3
  go_upto_region 1 with fail
  have kA : Blk (W.alloc (.cells (bdA x s) 36)) W.heap.size (bdA x s) 36 := Blk.new _ _ _ _ rfl
  have g0 : Grew W (W.alloc (.cells (bdA x s) 36)) := (Grew.refl W).alloc _
  generalize (W.alloc (.cells (bdA x s) 36)) = w0 at *
  have lA : W.heap.size ≤ W.heap.size := Nat.le_refl _
  generalize hZ : W.heap.size = A at *
  have HZ := Lib.hid hZ
  clear hZ lA
  go_wp2_with (refine ld_bd rfl (.tmp 4) rfl _ rfl kA (by rfl) ?_)
  refine (HS.out _).mono ?_
  rintro e w1 ⟨rfl, g1⟩
  replace kA := kA.grew g1
  replace g0 := g0.trans g1
  clear g1
  go_wp2_with fail
  refine (heads_c (Grew.refl _)).mono ?_
  rintro e wh ⟨rfl, gh⟩
  replace g0 := g0.trans gh
  go_wp2_with fail
  go_ret
  exact ⟨rfl, g0⟩
set_option maxHeartbeats 8000000 in
theorem walk_clint (x : BX) (s : BS) (p n y : Int) (W : World) (hb : Bd W x s) (hpos : 33554432 ≤ p ∧ p < 33619968) (hst : ∀ w, Bd w x s → Calls Tryz.prog 8 #[bdV x s, .int .u64 p, .int .i64 n, .int .u64 y] w fun e w' => ∃ x' T' C' S' ok, e = .returned (.tuple #[bdV x' { s with T := T', C := C', S := S' }, .bool ok]) ∧ Hid (Bdr w' x' { s with T := T', C := C', S := S' }) ∧ Hid (ok = false → T' = s.T ∧ C' = s.C ∧ S' = s.S) ∧ Grew w w') (hs : (decide (s.r.length ≤ 70000) && decide (s.u.i.length ≤ 5000) && decide (s.u.o.length ≤ 5000)) = true) : Calls Tryz.prog 3 #[bdV x s, .int .u64 p, .int .i64 n, .int .u64 y] W fun e w' => e = .returned (.bool true) ∧ Below W.heap.size W w' := by
  have hS := small_c (x := x) (s := s)
  rw [hs] at hS
  have HS := Lib.hid hS
  have HB := Lib.hid hb
  have HST := Lib.hid hst
  have HPOS := Lib.hid hpos
  clear hS hs hb hst hpos
  go_enter Tryz.func3, Tryz.ntmps3
  go_upto_region 1 with fail
  have kA : Blk (W.alloc (.cells (bdA x s) 36)) W.heap.size (bdA x s) 36 := Blk.new _ _ _ _ rfl
  have g0 : Grew W (W.alloc (.cells (bdA x s) 36)) := (Grew.refl W).alloc _
  generalize (W.alloc (.cells (bdA x s) 36)) = w0 at *
  have lA : W.heap.size ≤ W.heap.size := Nat.le_refl _
  generalize hZ : W.heap.size = A at *
  have HZ := Lib.hid hZ
  clear hZ lA
  have LA : Hid (W.heap.size ≤ A) := Lib.hid (by rw [HZ.out]; exact Nat.le_refl _)
  go_wp2_with (refine ld_bd rfl (.tmp 4) rfl _ rfl kA (by rfl) ?_)
  refine (HS.out _).mono ?_
  rintro e w1 ⟨rfl, g1⟩
  replace kA := kA.grew g1
  replace g0 := g0.trans g1
  clear g1
  go_wp2_with (refine ld_bd rfl (.tmp 4) rfl _ rfl kA (by rfl) ?_)
  refine (HST.out _ (HB.out.grew g0)).mono ?_
  rintro e w2 ⟨x', T', C', S', ok, rfl, H1, HF, g1⟩
  replace kA := kA.grew g1
  replace g0 := g0.trans g1
  clear g1
  have lS := g0.size
  have lA := kA.lt
  go_upto_region 4 with (refine st_bd rfl (.tmp 9) (.tmp 22) rfl rfl x' { s with T := T', C := C', S := S' } (Blk.new w2 zeroB 36 _ rfl) rfl (by rfl) (by rfl) ?_; intro w3 kC oo)
  have kz : Blk (w2.alloc (.cells zeroB 36)) w2.heap.size zeroB 36 := Blk.new _ _ _ _ rfl
  replace kA := (kA.alloc (.cells zeroB 36)).only oo (by omega)
  have nAC : A ≠ w2.heap.size := by omega
  clear lA
  replace g0 : Grew W w3 := oo.grew (g0.alloc _) lS
  have LC : Hid (W.heap.size ≤ w2.heap.size) := Lib.hid lS
  replace H1 := Lib.hid ((H1.out.grew ((Grew.refl w2).alloc _)).only oo kz nb_zero (by decide))
  clear oo kz lS
  generalize w2.heap.size = C at *
  cases ok
  case false =>
    obtain ⟨rfl, rfl, rfl⟩ := HF.out rfl
    go_wp2_with (first | refine lw_bd (by rfl) (.tmp 9) rfl _ rfl kC (by rfl) ?_ | refine lw_bd (by rfl) (.tmp 4) rfl _ rfl kA (by rfl) ?_)
    refine (Same_c H1.out.bd (HB.out.grew g0)).mono ?_
    rintro e w6 ⟨rfl, g1⟩
    replace g0 := g0.trans g1
    go_wp2_with fail
    refine (heads_c (Grew.refl _)).mono ?_
    rintro e wh ⟨rfl, gh⟩
    replace g0 := g0.trans gh
    go_wp2_with fail
    go_ret
    exact ⟨rfl, g0⟩
  case true =>
    have lS := g0.size
    have lA := kA.lt
    have lC := kC.lt
    go_upto_region 8 with (first | refine ld_bd rfl (.tmp 4) rfl _ rfl kA (by rfl) ?_ | (refine st_bd rfl (.tmp 11) (.tmp 32) rfl rfl x s (Blk.new w3 zeroB 36 _ rfl) rfl (by rfl) (by rfl) ?_; intro w4 kD oo))
    have kz : Blk (w3.alloc (.cells zeroB 36)) w3.heap.size zeroB 36 := Blk.new _ _ _ _ rfl
    replace kA := (kA.alloc (.cells zeroB 36)).only oo (by omega)
    have nAD : A ≠ w3.heap.size := by omega
    replace kC := (kC.alloc (.cells zeroB 36)).only oo (by omega)
    have nCD : C ≠ w3.heap.size := by omega
    clear lA lC
    replace g0 : Grew W w4 := oo.grew (g0.alloc _) lS
    have LD : Hid (W.heap.size ≤ w3.heap.size) := Lib.hid lS
    replace H1 := Lib.hid ((H1.out.grew ((Grew.refl w3).alloc _)).only oo kz nb_zero (by decide))
    clear oo kz lS
    generalize w3.heap.size = D at *
    obtain ⟨h1, h2⟩ := HPOS.out
    have aclint : 33554432 ≤ p := by omega
    have bclint : p < 33619968 := by omega
    have aplic : ¬ 201326592 ≤ p := by omega
    have auart : ¬ 268435456 ≤ p := by omega
    have anic : ¬ 268439552 ≤ p := by omega
    clear h1 h2
    go_upto_region 16 with (first | refine fa_1 rfl (.tmp 9) rfl _ rfl C (by rfl) ?_ | refine fa_1 rfl (.tmp 11) rfl _ rfl D (by rfl) ?_ | refine ld_clP rfl (.tmp 43) rfl _ rfl kC (by rfl) ?_ | (refine st_clP rfl (.tmp 45) (.tmp 44) rfl rfl T' C' S' kD (by rfl) (by rfl) ?_; intro w5 kD5 o5))
    have nbD := nb_bd x s
    replace H1 := Lib.hid (H1.out.only o5 kD nbD (by decide))
    replace kA := kA.only o5 nAD
    replace kC := kC.only o5 nCD
    replace g0 := o5.grew g0 LD.out
    clear o5 kD nbD
    have HD : Hid (Bd w5 x { s with T := T', C := C', S := S' }) := Lib.hid ⟨HB.out.r.grew g0, HB.out.p.grew g0, HB.out.u.grew g0, HB.out.m.grew g0⟩
    go_wp2_with (first | refine lw_bd (by rfl) (.tmp 9) rfl _ rfl kC (by rfl) ?_ | refine lw_bd (by rfl) (.tmp 11) rfl _ rfl kD5 (by rfl) ?_)
    refine (Same_c H1.out.bd HD.out).mono ?_
    rintro e w6 ⟨rfl, g1⟩
    replace kA := kA.grew g1
    replace kC := kC.grew g1
    replace g0 := g0.trans g1
    have yA : w6.cell? ⟨A, 0, none⟩ = some (.slice x.ra s.r.length x.rc) := kA.cell 0
    have yC : w6.cell? ⟨C, 0, none⟩ = some (.slice x'.ra s.r.length x'.rc) := kC.cell 0
    clear g1
    go_wp2_with fail
    refine (heads_c (Grew.refl _)).mono ?_
    rintro e wh ⟨rfl, gh⟩
    replace g0 := g0.trans gh
    go_wp2_with fail
    go_ret
    exact ⟨rfl, g0⟩
set_option maxHeartbeats 8000000 in
theorem walk_plic (x : BX) (s : BS) (p n y : Int) (W : World) (hb : Bd W x s) (hpos : 201326592 ≤ p ∧ p < 205520896) (hst : ∀ w, Bd w x s → Calls Tryz.prog 8 #[bdV x s, .int .u64 p, .int .i64 n, .int .u64 y] w fun e w' => ∃ x' p' ok, e = .returned (.tuple #[bdV x' { s with p := p' }, .bool ok]) ∧ Hid (Bdr w' x' { s with p := p' }) ∧ Hid (ok = false → p' = s.p) ∧ Grew w w') (hs : (decide (s.r.length ≤ 70000) && decide (s.u.i.length ≤ 5000) && decide (s.u.o.length ≤ 5000)) = true) : Calls Tryz.prog 3 #[bdV x s, .int .u64 p, .int .i64 n, .int .u64 y] W fun e w' => e = .returned (.bool true) ∧ Below W.heap.size W w' := by
  have hS := small_c (x := x) (s := s)
  rw [hs] at hS
  have HS := Lib.hid hS
  have HB := Lib.hid hb
  have HST := Lib.hid hst
  have HPOS := Lib.hid hpos
  clear hS hs hb hst hpos
  go_enter Tryz.func3, Tryz.ntmps3
  go_upto_region 1 with fail
  have kA : Blk (W.alloc (.cells (bdA x s) 36)) W.heap.size (bdA x s) 36 := Blk.new _ _ _ _ rfl
  have g0 : Grew W (W.alloc (.cells (bdA x s) 36)) := (Grew.refl W).alloc _
  generalize (W.alloc (.cells (bdA x s) 36)) = w0 at *
  have lA : W.heap.size ≤ W.heap.size := Nat.le_refl _
  generalize hZ : W.heap.size = A at *
  have HZ := Lib.hid hZ
  clear hZ lA
  have LA : Hid (W.heap.size ≤ A) := Lib.hid (by rw [HZ.out]; exact Nat.le_refl _)
  go_wp2_with (refine ld_bd rfl (.tmp 4) rfl _ rfl kA (by rfl) ?_)
  refine (HS.out _).mono ?_
  rintro e w1 ⟨rfl, g1⟩
  replace kA := kA.grew g1
  replace g0 := g0.trans g1
  clear g1
  go_wp2_with (refine ld_bd rfl (.tmp 4) rfl _ rfl kA (by rfl) ?_)
  refine (HST.out _ (HB.out.grew g0)).mono ?_
  rintro e w2 ⟨x', p', ok, rfl, H1, HF, g1⟩
  replace kA := kA.grew g1
  replace g0 := g0.trans g1
  clear g1
  have lS := g0.size
  have lA := kA.lt
  go_upto_region 4 with (refine st_bd rfl (.tmp 9) (.tmp 22) rfl rfl x' { s with p := p' } (Blk.new w2 zeroB 36 _ rfl) rfl (by rfl) (by rfl) ?_; intro w3 kC oo)
  have kz : Blk (w2.alloc (.cells zeroB 36)) w2.heap.size zeroB 36 := Blk.new _ _ _ _ rfl
  replace kA := (kA.alloc (.cells zeroB 36)).only oo (by omega)
  have nAC : A ≠ w2.heap.size := by omega
  clear lA
  replace g0 : Grew W w3 := oo.grew (g0.alloc _) lS
  have LC : Hid (W.heap.size ≤ w2.heap.size) := Lib.hid lS
  replace H1 := Lib.hid ((H1.out.grew ((Grew.refl w2).alloc _)).only oo kz nb_zero (by decide))
  clear oo kz lS
  generalize w2.heap.size = C at *
  cases ok
  case false =>
    obtain rfl := HF.out rfl
    go_wp2_with (first | refine lw_bd (by rfl) (.tmp 9) rfl _ rfl kC (by rfl) ?_ | refine lw_bd (by rfl) (.tmp 4) rfl _ rfl kA (by rfl) ?_)
    refine (Same_c H1.out.bd (HB.out.grew g0)).mono ?_
    rintro e w6 ⟨rfl, g1⟩
    replace g0 := g0.trans g1
    go_wp2_with fail
    refine (heads_c (Grew.refl _)).mono ?_
    rintro e wh ⟨rfl, gh⟩
    replace g0 := g0.trans gh
    go_wp2_with fail
    go_ret
    exact ⟨rfl, g0⟩
  case true =>
    have lS := g0.size
    have lA := kA.lt
    have lC := kC.lt
    go_upto_region 8 with (first | refine ld_bd rfl (.tmp 4) rfl _ rfl kA (by rfl) ?_ | (refine st_bd rfl (.tmp 11) (.tmp 32) rfl rfl x s (Blk.new w3 zeroB 36 _ rfl) rfl (by rfl) (by rfl) ?_; intro w4 kD oo))
    have kz : Blk (w3.alloc (.cells zeroB 36)) w3.heap.size zeroB 36 := Blk.new _ _ _ _ rfl
    replace kA := (kA.alloc (.cells zeroB 36)).only oo (by omega)
    have nAD : A ≠ w3.heap.size := by omega
    replace kC := (kC.alloc (.cells zeroB 36)).only oo (by omega)
    have nCD : C ≠ w3.heap.size := by omega
    clear lA lC
    replace g0 : Grew W w4 := oo.grew (g0.alloc _) lS
    have LD : Hid (W.heap.size ≤ w3.heap.size) := Lib.hid lS
    replace H1 := Lib.hid ((H1.out.grew ((Grew.refl w3).alloc _)).only oo kz nb_zero (by decide))
    clear oo kz lS
    generalize w3.heap.size = D at *
    obtain ⟨h1, h2⟩ := HPOS.out
    have aclint : 33554432 ≤ p := by omega
    have bclint : ¬ p < 33619968 := by omega
    have aplic : 201326592 ≤ p := by omega
    have bplic : p < 205520896 := by omega
    have auart : ¬ 268435456 ≤ p := by omega
    have anic : ¬ 268439552 ≤ p := by omega
    clear h1 h2
    go_upto_region 16 with (first | refine fa_2 rfl (.tmp 9) rfl _ rfl C (by rfl) ?_ | refine fa_2 rfl (.tmp 11) rfl _ rfl D (by rfl) ?_ | refine ld_plP rfl (.tmp 53) rfl _ rfl kC (by rfl) ?_ | (refine st_plP rfl (.tmp 55) (.tmp 54) rfl rfl p' x'.pa x'.pc x'.ea x'.ec x'.ta x'.tc kD (by rfl) (by rfl) ?_; intro w5 kD5 o5))
    have nbD := nb_bd x s
    replace H1 := Lib.hid (H1.out.only o5 kD nbD (by decide))
    replace kA := kA.only o5 nAD
    replace kC := kC.only o5 nCD
    replace g0 := o5.grew g0 LD.out
    clear o5 kD nbD
    have HD : Hid (Bd w5 { x with pa := x'.pa, pc := x'.pc, ea := x'.ea, ec := x'.ec, ta := x'.ta, tc := x'.tc } { s with p := p' }) := Lib.hid ⟨HB.out.r.grew g0, H1.out.p.pl, HB.out.u.grew g0, HB.out.m.grew g0⟩
    go_wp2_with (first | refine lw_bd (by rfl) (.tmp 9) rfl _ rfl kC (by rfl) ?_ | refine lw_bd (by rfl) (.tmp 11) rfl _ rfl kD5 (by rfl) ?_)
    refine (Same_c H1.out.bd HD.out).mono ?_
    rintro e w6 ⟨rfl, g1⟩
    replace kA := kA.grew g1
    replace kC := kC.grew g1
    replace g0 := g0.trans g1
    have yA : w6.cell? ⟨A, 0, none⟩ = some (.slice x.ra s.r.length x.rc) := kA.cell 0
    have yC : w6.cell? ⟨C, 0, none⟩ = some (.slice x'.ra s.r.length x'.rc) := kC.cell 0
    clear g1
    go_wp2_with fail
    refine (heads_c (Grew.refl _)).mono ?_
    rintro e wh ⟨rfl, gh⟩
    replace g0 := g0.trans gh
    go_wp2_with fail
    go_ret
    exact ⟨rfl, g0⟩
set_option maxHeartbeats 8000000 in
theorem walk_uart (x : BX) (s : BS) (p n y : Int) (W : World) (hb : Bd W x s) (hpos : 268435456 ≤ p ∧ p < 268435464) (hst : ∀ w, Bd w x s → Calls Tryz.prog 8 #[bdV x s, .int .u64 p, .int .i64 n, .int .u64 y] w fun e w' => ∃ x' u' ok, e = .returned (.tuple #[bdV x' { s with u := u' }, .bool ok]) ∧ Hid (Bdr w' x' { s with u := u' }) ∧ Hid (ok = false → u' = s.u) ∧ Grew w w') (hs : (decide (s.r.length ≤ 70000) && decide (s.u.i.length ≤ 5000) && decide (s.u.o.length ≤ 5000)) = true) : Calls Tryz.prog 3 #[bdV x s, .int .u64 p, .int .i64 n, .int .u64 y] W fun e w' => e = .returned (.bool true) ∧ Below W.heap.size W w' := by
  have hS := small_c (x := x) (s := s)
  rw [hs] at hS
  have HS := Lib.hid hS
  have HB := Lib.hid hb
  have HST := Lib.hid hst
  have HPOS := Lib.hid hpos
  clear hS hs hb hst hpos
  go_enter Tryz.func3, Tryz.ntmps3
  go_upto_region 1 with fail
  have kA : Blk (W.alloc (.cells (bdA x s) 36)) W.heap.size (bdA x s) 36 := Blk.new _ _ _ _ rfl
  have g0 : Grew W (W.alloc (.cells (bdA x s) 36)) := (Grew.refl W).alloc _
  generalize (W.alloc (.cells (bdA x s) 36)) = w0 at *
  have lA : W.heap.size ≤ W.heap.size := Nat.le_refl _
  generalize hZ : W.heap.size = A at *
  have HZ := Lib.hid hZ
  clear hZ lA
  have LA : Hid (W.heap.size ≤ A) := Lib.hid (by rw [HZ.out]; exact Nat.le_refl _)
  go_wp2_with (refine ld_bd rfl (.tmp 4) rfl _ rfl kA (by rfl) ?_)
  refine (HS.out _).mono ?_
  rintro e w1 ⟨rfl, g1⟩
  replace kA := kA.grew g1
  replace g0 := g0.trans g1
  clear g1
  go_wp2_with (refine ld_bd rfl (.tmp 4) rfl _ rfl kA (by rfl) ?_)
  refine (HST.out _ (HB.out.grew g0)).mono ?_
  rintro e w2 ⟨x', u', ok, rfl, H1, HF, g1⟩
  replace kA := kA.grew g1
  replace g0 := g0.trans g1
  clear g1
  have lS := g0.size
  have lA := kA.lt
  go_upto_region 4 with (refine st_bd rfl (.tmp 9) (.tmp 22) rfl rfl x' { s with u := u' } (Blk.new w2 zeroB 36 _ rfl) rfl (by rfl) (by rfl) ?_; intro w3 kC oo)
  have kz : Blk (w2.alloc (.cells zeroB 36)) w2.heap.size zeroB 36 := Blk.new _ _ _ _ rfl
  replace kA := (kA.alloc (.cells zeroB 36)).only oo (by omega)
  have nAC : A ≠ w2.heap.size := by omega
  clear lA
  replace g0 : Grew W w3 := oo.grew (g0.alloc _) lS
  have LC : Hid (W.heap.size ≤ w2.heap.size) := Lib.hid lS
  replace H1 := Lib.hid ((H1.out.grew ((Grew.refl w2).alloc _)).only oo kz nb_zero (by decide))
  clear oo kz lS
  generalize w2.heap.size = C at *
  cases ok
  case false =>
    obtain rfl := HF.out rfl
    go_wp2_with (first | refine lw_bd (by rfl) (.tmp 9) rfl _ rfl kC (by rfl) ?_ | refine lw_bd (by rfl) (.tmp 4) rfl _ rfl kA (by rfl) ?_)
    refine (Same_c H1.out.bd (HB.out.grew g0)).mono ?_
    rintro e w6 ⟨rfl, g1⟩
    replace g0 := g0.trans g1
    go_wp2_with fail
    refine (heads_c (Grew.refl _)).mono ?_
    rintro e wh ⟨rfl, gh⟩
    replace g0 := g0.trans gh
    go_wp2_with fail
    go_ret
    exact ⟨rfl, g0⟩
  case true =>
    have lS := g0.size
    have lA := kA.lt
    have lC := kC.lt
    go_upto_region 8 with (first | refine ld_bd rfl (.tmp 4) rfl _ rfl kA (by rfl) ?_ | (refine st_bd rfl (.tmp 11) (.tmp 32) rfl rfl x s (Blk.new w3 zeroB 36 _ rfl) rfl (by rfl) (by rfl) ?_; intro w4 kD oo))
    have kz : Blk (w3.alloc (.cells zeroB 36)) w3.heap.size zeroB 36 := Blk.new _ _ _ _ rfl
    replace kA := (kA.alloc (.cells zeroB 36)).only oo (by omega)
    have nAD : A ≠ w3.heap.size := by omega
    replace kC := (kC.alloc (.cells zeroB 36)).only oo (by omega)
    have nCD : C ≠ w3.heap.size := by omega
    clear lA lC
    replace g0 : Grew W w4 := oo.grew (g0.alloc _) lS
    have LD : Hid (W.heap.size ≤ w3.heap.size) := Lib.hid lS
    replace H1 := Lib.hid ((H1.out.grew ((Grew.refl w3).alloc _)).only oo kz nb_zero (by decide))
    clear oo kz lS
    generalize w3.heap.size = D at *
    obtain ⟨h1, h2⟩ := HPOS.out
    have aclint : 33554432 ≤ p := by omega
    have bclint : ¬ p < 33619968 := by omega
    have aplic : 201326592 ≤ p := by omega
    have bplic : ¬ p < 205520896 := by omega
    have auart : 268435456 ≤ p := by omega
    have buart : p < 268435464 := by omega
    have anic : ¬ 268439552 ≤ p := by omega
    clear h1 h2
    go_upto_region 16 with (first | refine fa_3 rfl (.tmp 9) rfl _ rfl C (by rfl) ?_ | refine fa_3 rfl (.tmp 11) rfl _ rfl D (by rfl) ?_ | refine ld_uaP rfl (.tmp 63) rfl _ rfl kC (by rfl) ?_ | (refine st_uaP rfl (.tmp 65) (.tmp 64) rfl rfl u' x'.ia x'.ic x'.oa x'.oc kD (by rfl) (by rfl) ?_; intro w5 kD5 o5))
    have nbD := nb_bd x s
    replace H1 := Lib.hid (H1.out.only o5 kD nbD (by decide))
    replace kA := kA.only o5 nAD
    replace kC := kC.only o5 nCD
    replace g0 := o5.grew g0 LD.out
    clear o5 kD nbD
    have HD : Hid (Bd w5 { x with ia := x'.ia, ic := x'.ic, oa := x'.oa, oc := x'.oc } { s with u := u' }) := Lib.hid ⟨HB.out.r.grew g0, HB.out.p.grew g0, H1.out.u, HB.out.m.grew g0⟩
    go_wp2_with (first | refine lw_bd (by rfl) (.tmp 9) rfl _ rfl kC (by rfl) ?_ | refine lw_bd (by rfl) (.tmp 11) rfl _ rfl kD5 (by rfl) ?_)
    refine (Same_c H1.out.bd HD.out).mono ?_
    rintro e w6 ⟨rfl, g1⟩
    replace kA := kA.grew g1
    replace kC := kC.grew g1
    replace g0 := g0.trans g1
    have yA : w6.cell? ⟨A, 0, none⟩ = some (.slice x.ra s.r.length x.rc) := kA.cell 0
    have yC : w6.cell? ⟨C, 0, none⟩ = some (.slice x'.ra s.r.length x'.rc) := kC.cell 0
    clear g1
    go_wp2_with fail
    refine (heads_c (Grew.refl _)).mono ?_
    rintro e wh ⟨rfl, gh⟩
    replace g0 := g0.trans gh
    go_wp2_with fail
    go_ret
    exact ⟨rfl, g0⟩
set_option maxHeartbeats 8000000 in
theorem walk_nic (x : BX) (s : BS) (p n y : Int) (W : World) (hb : Bd W x s) (hpos : 268439552 ≤ p ∧ p < 268439808) (hst : ∀ w, Bd w x s → Calls Tryz.prog 8 #[bdV x s, .int .u64 p, .int .i64 n, .int .u64 y] w fun e w' => ∃ x' c' ok, e = .returned (.tuple #[bdV x' { s with c := c', m := s.m }, .bool ok]) ∧ Hid (Bdr w' x' { s with c := c', m := s.m }) ∧ Hid (ok = false → c' = s.c) ∧ Grew w w') (hs : (decide (s.r.length ≤ 70000) && decide (s.u.i.length ≤ 5000) && decide (s.u.o.length ≤ 5000)) = true) : Calls Tryz.prog 3 #[bdV x s, .int .u64 p, .int .i64 n, .int .u64 y] W fun e w' => e = .returned (.bool true) ∧ Below W.heap.size W w' := by
  have hS := small_c (x := x) (s := s)
  rw [hs] at hS
  have HS := Lib.hid hS
  have HB := Lib.hid hb
  have HST := Lib.hid hst
  have HPOS := Lib.hid hpos
  clear hS hs hb hst hpos
  go_enter Tryz.func3, Tryz.ntmps3
  go_upto_region 1 with fail
  have kA : Blk (W.alloc (.cells (bdA x s) 36)) W.heap.size (bdA x s) 36 := Blk.new _ _ _ _ rfl
  have g0 : Grew W (W.alloc (.cells (bdA x s) 36)) := (Grew.refl W).alloc _
  generalize (W.alloc (.cells (bdA x s) 36)) = w0 at *
  have lA : W.heap.size ≤ W.heap.size := Nat.le_refl _
  generalize hZ : W.heap.size = A at *
  have HZ := Lib.hid hZ
  clear hZ lA
  have LA : Hid (W.heap.size ≤ A) := Lib.hid (by rw [HZ.out]; exact Nat.le_refl _)
  go_wp2_with (refine ld_bd rfl (.tmp 4) rfl _ rfl kA (by rfl) ?_)
  refine (HS.out _).mono ?_
  rintro e w1 ⟨rfl, g1⟩
  replace kA := kA.grew g1
  replace g0 := g0.trans g1
  clear g1
  go_wp2_with (refine ld_bd rfl (.tmp 4) rfl _ rfl kA (by rfl) ?_)
  refine (HST.out _ (HB.out.grew g0)).mono ?_
  rintro e w2 ⟨x', c', ok, rfl, H1, HF, g1⟩
  replace kA := kA.grew g1
  replace g0 := g0.trans g1
  clear g1
  have lS := g0.size
  have lA := kA.lt
  go_upto_region 4 with (refine st_bd rfl (.tmp 9) (.tmp 22) rfl rfl x' { s with c := c', m := s.m } (Blk.new w2 zeroB 36 _ rfl) rfl (by rfl) (by rfl) ?_; intro w3 kC oo)
  have kz : Blk (w2.alloc (.cells zeroB 36)) w2.heap.size zeroB 36 := Blk.new _ _ _ _ rfl
  replace kA := (kA.alloc (.cells zeroB 36)).only oo (by omega)
  have nAC : A ≠ w2.heap.size := by omega
  clear lA
  replace g0 : Grew W w3 := oo.grew (g0.alloc _) lS
  have LC : Hid (W.heap.size ≤ w2.heap.size) := Lib.hid lS
  replace H1 := Lib.hid ((H1.out.grew ((Grew.refl w2).alloc _)).only oo kz nb_zero (by decide))
  clear oo kz lS
  generalize w2.heap.size = C at *
  cases ok
  case false =>
    obtain rfl := HF.out rfl
    go_wp2_with (first | refine lw_bd (by rfl) (.tmp 9) rfl _ rfl kC (by rfl) ?_ | refine lw_bd (by rfl) (.tmp 4) rfl _ rfl kA (by rfl) ?_)
    refine (Same_c H1.out.bd (HB.out.grew g0)).mono ?_
    rintro e w6 ⟨rfl, g1⟩
    replace g0 := g0.trans g1
    go_wp2_with fail
    refine (heads_c (Grew.refl _)).mono ?_
    rintro e wh ⟨rfl, gh⟩
    replace g0 := g0.trans gh
    go_wp2_with fail
    go_ret
    exact ⟨rfl, g0⟩
  case true =>
    have lS := g0.size
    have lA := kA.lt
    have lC := kC.lt
    go_upto_region 8 with (first | refine ld_bd rfl (.tmp 4) rfl _ rfl kA (by rfl) ?_ | (refine st_bd rfl (.tmp 11) (.tmp 32) rfl rfl x s (Blk.new w3 zeroB 36 _ rfl) rfl (by rfl) (by rfl) ?_; intro w4 kD oo))
    have kz : Blk (w3.alloc (.cells zeroB 36)) w3.heap.size zeroB 36 := Blk.new _ _ _ _ rfl
    replace kA := (kA.alloc (.cells zeroB 36)).only oo (by omega)
    have nAD : A ≠ w3.heap.size := by omega
    replace kC := (kC.alloc (.cells zeroB 36)).only oo (by omega)
    have nCD : C ≠ w3.heap.size := by omega
    clear lA lC
    replace g0 : Grew W w4 := oo.grew (g0.alloc _) lS
    have LD : Hid (W.heap.size ≤ w3.heap.size) := Lib.hid lS
    replace H1 := Lib.hid ((H1.out.grew ((Grew.refl w3).alloc _)).only oo kz nb_zero (by decide))
    clear oo kz lS
    generalize w3.heap.size = D at *
    obtain ⟨h1, h2⟩ := HPOS.out
    have aclint : 33554432 ≤ p := by omega
    have bclint : ¬ p < 33619968 := by omega
    have aplic : 201326592 ≤ p := by omega
    have bplic : ¬ p < 205520896 := by omega
    have auart : 268435456 ≤ p := by omega
    have buart : ¬ p < 268435464 := by omega
    have anic : 268439552 ≤ p := by omega
    have bnic : p < 268439808 := by omega
    clear h1 h2
    go_upto_region 16 with (first | refine fa_4 rfl (.tmp 9) rfl _ rfl C (by rfl) ?_ | refine fa_4 rfl (.tmp 11) rfl _ rfl D (by rfl) ?_ | refine ld_nnP rfl (.tmp 73) rfl _ rfl kC (by rfl) ?_ | (refine st_nnP rfl (.tmp 75) (.tmp 74) rfl rfl c' s.m x'.ma x'.mc kD (by rfl) (by rfl) ?_; intro w5 kD5 o5))
    have nbD := nb_bd x s
    replace H1 := Lib.hid (H1.out.only o5 kD nbD (by decide))
    replace kA := kA.only o5 nAD
    replace kC := kC.only o5 nCD
    replace g0 := o5.grew g0 LD.out
    clear o5 kD nbD
    have HD : Hid (Bd w5 { x with ma := x'.ma, mc := x'.mc } { s with c := c', m := s.m }) := Lib.hid ⟨HB.out.r.grew g0, HB.out.p.grew g0, HB.out.u.grew g0, H1.out.m⟩
    go_wp2_with (first | refine lw_bd (by rfl) (.tmp 9) rfl _ rfl kC (by rfl) ?_ | refine lw_bd (by rfl) (.tmp 11) rfl _ rfl kD5 (by rfl) ?_)
    refine (Same_c H1.out.bd HD.out).mono ?_
    rintro e w6 ⟨rfl, g1⟩
    replace kA := kA.grew g1
    replace kC := kC.grew g1
    replace g0 := g0.trans g1
    have yA : w6.cell? ⟨A, 0, none⟩ = some (.slice x.ra s.r.length x.rc) := kA.cell 0
    have yC : w6.cell? ⟨C, 0, none⟩ = some (.slice x'.ra s.r.length x'.rc) := kC.cell 0
    clear g1
    go_wp2_with fail
    refine (heads_c (Grew.refl _)).mono ?_
    rintro e wh ⟨rfl, gh⟩
    replace g0 := g0.trans gh
    go_wp2_with fail
    go_ret
    exact ⟨rfl, g0⟩
set_option maxHeartbeats 8000000 in
theorem walk_ram (x : BX) (s : BS) (p n y : Int) (W : World) (hb : Bd W x s) (hpos : p < 33554432 ∨ (33619968 ≤ p ∧ p < 201326592) ∨ (205520896 ≤ p ∧ p < 268435456) ∨ (268435464 ≤ p ∧ p < 268439552) ∨ 268439808 ≤ p) (hst : ∀ w, Bd w x s → Calls Tryz.prog 8 #[bdV x s, .int .u64 p, .int .i64 n, .int .u64 y] w fun e w' => ∃ x' r' ok, e = .returned (.tuple #[bdV x' { s with r := r' }, .bool ok]) ∧ Hid (Bdr w' x' { s with r := r' }) ∧ Hid (ok = false → r' = s.r) ∧ Hid (r'.length = s.r.length) ∧ Grew w w') (hs : (decide (s.r.length ≤ 70000) && decide (s.u.i.length ≤ 5000) && decide (s.u.o.length ≤ 5000)) = true) : Calls Tryz.prog 3 #[bdV x s, .int .u64 p, .int .i64 n, .int .u64 y] W fun e w' => e = .returned (.bool true) ∧ Below W.heap.size W w' := by
  have hS := small_c (x := x) (s := s)
  rw [hs] at hS
  have HS := Lib.hid hS
  have HB := Lib.hid hb
  have HST := Lib.hid hst
  have HPOS := Lib.hid hpos
  clear hS hs hb hst hpos
  go_enter Tryz.func3, Tryz.ntmps3
  go_upto_region 1 with fail
  have kA : Blk (W.alloc (.cells (bdA x s) 36)) W.heap.size (bdA x s) 36 := Blk.new _ _ _ _ rfl
  have g0 : Grew W (W.alloc (.cells (bdA x s) 36)) := (Grew.refl W).alloc _
  generalize (W.alloc (.cells (bdA x s) 36)) = w0 at *
  have lA : W.heap.size ≤ W.heap.size := Nat.le_refl _
  generalize hZ : W.heap.size = A at *
  have HZ := Lib.hid hZ
  clear hZ lA
  have LA : Hid (W.heap.size ≤ A) := Lib.hid (by rw [HZ.out]; exact Nat.le_refl _)
  go_wp2_with (refine ld_bd rfl (.tmp 4) rfl _ rfl kA (by rfl) ?_)
  refine (HS.out _).mono ?_
  rintro e w1 ⟨rfl, g1⟩
  replace kA := kA.grew g1
  replace g0 := g0.trans g1
  clear g1
  go_wp2_with (refine ld_bd rfl (.tmp 4) rfl _ rfl kA (by rfl) ?_)
  refine (HST.out _ (HB.out.grew g0)).mono ?_
  rintro e w2 ⟨x', r', ok, rfl, H1, HF, HLN, g1⟩
  replace kA := kA.grew g1
  replace g0 := g0.trans g1
  clear g1
  have lS := g0.size
  have lA := kA.lt
  go_upto_region 4 with (refine st_bd rfl (.tmp 9) (.tmp 22) rfl rfl x' { s with r := r' } (Blk.new w2 zeroB 36 _ rfl) rfl (by rfl) (by rfl) ?_; intro w3 kC oo)
  have kz : Blk (w2.alloc (.cells zeroB 36)) w2.heap.size zeroB 36 := Blk.new _ _ _ _ rfl
  replace kA := (kA.alloc (.cells zeroB 36)).only oo (by omega)
  have nAC : A ≠ w2.heap.size := by omega
  clear lA
  replace g0 : Grew W w3 := oo.grew (g0.alloc _) lS
  have LC : Hid (W.heap.size ≤ w2.heap.size) := Lib.hid lS
  replace H1 := Lib.hid ((H1.out.grew ((Grew.refl w2).alloc _)).only oo kz nb_zero (by decide))
  clear oo kz lS
  generalize w2.heap.size = C at *
  cases ok
  case false =>
    obtain rfl := HF.out rfl
    go_wp2_with (first | refine lw_bd (by rfl) (.tmp 9) rfl _ rfl kC (by rfl) ?_ | refine lw_bd (by rfl) (.tmp 4) rfl _ rfl kA (by rfl) ?_)
    refine (Same_c H1.out.bd (HB.out.grew g0)).mono ?_
    rintro e w6 ⟨rfl, g1⟩
    replace g0 := g0.trans g1
    go_wp2_with fail
    refine (heads_c (Grew.refl _)).mono ?_
    rintro e wh ⟨rfl, gh⟩
    replace g0 := g0.trans gh
    go_wp2_with fail
    go_ret
    exact ⟨rfl, g0⟩
  case true =>
    have lS := g0.size
    have lA := kA.lt
    have lC := kC.lt
    go_upto_region 8 with (first | refine ld_bd rfl (.tmp 4) rfl _ rfl kA (by rfl) ?_ | (refine st_bd rfl (.tmp 11) (.tmp 32) rfl rfl x s (Blk.new w3 zeroB 36 _ rfl) rfl (by rfl) (by rfl) ?_; intro w4 kD oo))
    have kz : Blk (w3.alloc (.cells zeroB 36)) w3.heap.size zeroB 36 := Blk.new _ _ _ _ rfl
    replace kA := (kA.alloc (.cells zeroB 36)).only oo (by omega)
    have nAD : A ≠ w3.heap.size := by omega
    replace kC := (kC.alloc (.cells zeroB 36)).only oo (by omega)
    have nCD : C ≠ w3.heap.size := by omega
    clear lA lC
    replace g0 : Grew W w4 := oo.grew (g0.alloc _) lS
    have LD : Hid (W.heap.size ≤ w3.heap.size) := Lib.hid lS
    replace H1 := Lib.hid ((H1.out.grew ((Grew.refl w3).alloc _)).only oo kz nb_zero (by decide))
    clear oo kz lS
    generalize w3.heap.size = D at *
    rcases HPOS.out with h1 | ⟨h1, h2⟩ | ⟨h1, h2⟩ | ⟨h1, h2⟩ | h1
    · have aclint : ¬ 33554432 ≤ p := by omega
      have aplic : ¬ 201326592 ≤ p := by omega
      have auart : ¬ 268435456 ≤ p := by omega
      have anic : ¬ 268439552 ≤ p := by omega
      clear h1
      go_upto_region 16 with (first | refine fa_0 rfl (.tmp 9) rfl _ rfl C (by rfl) ?_ | refine fa_0 rfl (.tmp 11) rfl _ rfl D (by rfl) ?_ | refine ld_rmP rfl (.tmp 33) rfl _ rfl kC (by rfl) ?_ | (refine st_rmP rfl (.tmp 35) (.tmp 34) rfl rfl x'.ra x'.rc r' kD (by rfl) (by rfl) ?_; intro w5 kD5 o5))
      have nbD := nb_bd x s
      replace H1 := Lib.hid (H1.out.only o5 kD nbD (by decide))
      replace kA := kA.only o5 nAD
      replace kC := kC.only o5 nCD
      replace g0 := o5.grew g0 LD.out
      clear o5 kD nbD
      have HD : Hid (Bd w5 { x with ra := x'.ra, rc := x'.rc } { s with r := r' }) := Lib.hid ⟨H1.out.r, HB.out.p.grew g0, HB.out.u.grew g0, HB.out.m.grew g0⟩
      go_wp2_with (first | refine lw_bd (by rfl) (.tmp 9) rfl _ rfl kC (by rfl) ?_ | refine lw_bd (by rfl) (.tmp 11) rfl _ rfl kD5 (by rfl) ?_)
      refine (Same_c H1.out.bd HD.out).mono ?_
      rintro e w6 ⟨rfl, g1⟩
      replace kA := kA.grew g1
      replace kC := kC.grew g1
      replace g0 := g0.trans g1
      have yA : w6.cell? ⟨A, 0, none⟩ = some (.slice x.ra s.r.length x.rc) := kA.cell 0
      have yC : w6.cell? ⟨C, 0, none⟩ = some (.slice x'.ra s.r.length x'.rc) := (kC.cell 0).trans (by show some (Value.slice x'.ra r'.length x'.rc) = _; rw [HLN.out])
      clear g1
      go_wp2_with fail
      refine (heads_c (Grew.refl _)).mono ?_
      rintro e wh ⟨rfl, gh⟩
      replace g0 := g0.trans gh
      go_wp2_with fail
      go_ret
      exact ⟨rfl, g0⟩
    · have aclint : 33554432 ≤ p := by omega
      have bclint : ¬ p < 33619968 := by omega
      have aplic : ¬ 201326592 ≤ p := by omega
      have auart : ¬ 268435456 ≤ p := by omega
      have anic : ¬ 268439552 ≤ p := by omega
      clear h1 h2
      go_upto_region 16 with (first | refine fa_0 rfl (.tmp 9) rfl _ rfl C (by rfl) ?_ | refine fa_0 rfl (.tmp 11) rfl _ rfl D (by rfl) ?_ | refine ld_rmP rfl (.tmp 33) rfl _ rfl kC (by rfl) ?_ | (refine st_rmP rfl (.tmp 35) (.tmp 34) rfl rfl x'.ra x'.rc r' kD (by rfl) (by rfl) ?_; intro w5 kD5 o5))
      have nbD := nb_bd x s
      replace H1 := Lib.hid (H1.out.only o5 kD nbD (by decide))
      replace kA := kA.only o5 nAD
      replace kC := kC.only o5 nCD
      replace g0 := o5.grew g0 LD.out
      clear o5 kD nbD
      have HD : Hid (Bd w5 { x with ra := x'.ra, rc := x'.rc } { s with r := r' }) := Lib.hid ⟨H1.out.r, HB.out.p.grew g0, HB.out.u.grew g0, HB.out.m.grew g0⟩
      go_wp2_with (first | refine lw_bd (by rfl) (.tmp 9) rfl _ rfl kC (by rfl) ?_ | refine lw_bd (by rfl) (.tmp 11) rfl _ rfl kD5 (by rfl) ?_)
      refine (Same_c H1.out.bd HD.out).mono ?_
      rintro e w6 ⟨rfl, g1⟩
      replace kA := kA.grew g1
      replace kC := kC.grew g1
      replace g0 := g0.trans g1
      have yA : w6.cell? ⟨A, 0, none⟩ = some (.slice x.ra s.r.length x.rc) := kA.cell 0
      have yC : w6.cell? ⟨C, 0, none⟩ = some (.slice x'.ra s.r.length x'.rc) := (kC.cell 0).trans (by show some (Value.slice x'.ra r'.length x'.rc) = _; rw [HLN.out])
      clear g1
      go_wp2_with fail
      refine (heads_c (Grew.refl _)).mono ?_
      rintro e wh ⟨rfl, gh⟩
      replace g0 := g0.trans gh
      go_wp2_with fail
      go_ret
      exact ⟨rfl, g0⟩
    · have aclint : 33554432 ≤ p := by omega
      have bclint : ¬ p < 33619968 := by omega
      have aplic : 201326592 ≤ p := by omega
      have bplic : ¬ p < 205520896 := by omega
      have auart : ¬ 268435456 ≤ p := by omega
      have anic : ¬ 268439552 ≤ p := by omega
      clear h1 h2
      go_upto_region 16 with (first | refine fa_0 rfl (.tmp 9) rfl _ rfl C (by rfl) ?_ | refine fa_0 rfl (.tmp 11) rfl _ rfl D (by rfl) ?_ | refine ld_rmP rfl (.tmp 33) rfl _ rfl kC (by rfl) ?_ | (refine st_rmP rfl (.tmp 35) (.tmp 34) rfl rfl x'.ra x'.rc r' kD (by rfl) (by rfl) ?_; intro w5 kD5 o5))
      have nbD := nb_bd x s
      replace H1 := Lib.hid (H1.out.only o5 kD nbD (by decide))
      replace kA := kA.only o5 nAD
      replace kC := kC.only o5 nCD
      replace g0 := o5.grew g0 LD.out
      clear o5 kD nbD
      have HD : Hid (Bd w5 { x with ra := x'.ra, rc := x'.rc } { s with r := r' }) := Lib.hid ⟨H1.out.r, HB.out.p.grew g0, HB.out.u.grew g0, HB.out.m.grew g0⟩
      go_wp2_with (first | refine lw_bd (by rfl) (.tmp 9) rfl _ rfl kC (by rfl) ?_ | refine lw_bd (by rfl) (.tmp 11) rfl _ rfl kD5 (by rfl) ?_)
      refine (Same_c H1.out.bd HD.out).mono ?_
      rintro e w6 ⟨rfl, g1⟩
      replace kA := kA.grew g1
      replace kC := kC.grew g1
      replace g0 := g0.trans g1
      have yA : w6.cell? ⟨A, 0, none⟩ = some (.slice x.ra s.r.length x.rc) := kA.cell 0
      have yC : w6.cell? ⟨C, 0, none⟩ = some (.slice x'.ra s.r.length x'.rc) := (kC.cell 0).trans (by show some (Value.slice x'.ra r'.length x'.rc) = _; rw [HLN.out])
      clear g1
      go_wp2_with fail
      refine (heads_c (Grew.refl _)).mono ?_
      rintro e wh ⟨rfl, gh⟩
      replace g0 := g0.trans gh
      go_wp2_with fail
      go_ret
      exact ⟨rfl, g0⟩
    · have aclint : 33554432 ≤ p := by omega
      have bclint : ¬ p < 33619968 := by omega
      have aplic : 201326592 ≤ p := by omega
      have bplic : ¬ p < 205520896 := by omega
      have auart : 268435456 ≤ p := by omega
      have buart : ¬ p < 268435464 := by omega
      have anic : ¬ 268439552 ≤ p := by omega
      clear h1 h2
      go_upto_region 16 with (first | refine fa_0 rfl (.tmp 9) rfl _ rfl C (by rfl) ?_ | refine fa_0 rfl (.tmp 11) rfl _ rfl D (by rfl) ?_ | refine ld_rmP rfl (.tmp 33) rfl _ rfl kC (by rfl) ?_ | (refine st_rmP rfl (.tmp 35) (.tmp 34) rfl rfl x'.ra x'.rc r' kD (by rfl) (by rfl) ?_; intro w5 kD5 o5))
      have nbD := nb_bd x s
      replace H1 := Lib.hid (H1.out.only o5 kD nbD (by decide))
      replace kA := kA.only o5 nAD
      replace kC := kC.only o5 nCD
      replace g0 := o5.grew g0 LD.out
      clear o5 kD nbD
      have HD : Hid (Bd w5 { x with ra := x'.ra, rc := x'.rc } { s with r := r' }) := Lib.hid ⟨H1.out.r, HB.out.p.grew g0, HB.out.u.grew g0, HB.out.m.grew g0⟩
      go_wp2_with (first | refine lw_bd (by rfl) (.tmp 9) rfl _ rfl kC (by rfl) ?_ | refine lw_bd (by rfl) (.tmp 11) rfl _ rfl kD5 (by rfl) ?_)
      refine (Same_c H1.out.bd HD.out).mono ?_
      rintro e w6 ⟨rfl, g1⟩
      replace kA := kA.grew g1
      replace kC := kC.grew g1
      replace g0 := g0.trans g1
      have yA : w6.cell? ⟨A, 0, none⟩ = some (.slice x.ra s.r.length x.rc) := kA.cell 0
      have yC : w6.cell? ⟨C, 0, none⟩ = some (.slice x'.ra s.r.length x'.rc) := (kC.cell 0).trans (by show some (Value.slice x'.ra r'.length x'.rc) = _; rw [HLN.out])
      clear g1
      go_wp2_with fail
      refine (heads_c (Grew.refl _)).mono ?_
      rintro e wh ⟨rfl, gh⟩
      replace g0 := g0.trans gh
      go_wp2_with fail
      go_ret
      exact ⟨rfl, g0⟩
    · have aclint : 33554432 ≤ p := by omega
      have bclint : ¬ p < 33619968 := by omega
      have aplic : 201326592 ≤ p := by omega
      have bplic : ¬ p < 205520896 := by omega
      have auart : 268435456 ≤ p := by omega
      have buart : ¬ p < 268435464 := by omega
      have anic : 268439552 ≤ p := by omega
      have bnic : ¬ p < 268439808 := by omega
      clear h1
      go_upto_region 16 with (first | refine fa_0 rfl (.tmp 9) rfl _ rfl C (by rfl) ?_ | refine fa_0 rfl (.tmp 11) rfl _ rfl D (by rfl) ?_ | refine ld_rmP rfl (.tmp 33) rfl _ rfl kC (by rfl) ?_ | (refine st_rmP rfl (.tmp 35) (.tmp 34) rfl rfl x'.ra x'.rc r' kD (by rfl) (by rfl) ?_; intro w5 kD5 o5))
      have nbD := nb_bd x s
      replace H1 := Lib.hid (H1.out.only o5 kD nbD (by decide))
      replace kA := kA.only o5 nAD
      replace kC := kC.only o5 nCD
      replace g0 := o5.grew g0 LD.out
      clear o5 kD nbD
      have HD : Hid (Bd w5 { x with ra := x'.ra, rc := x'.rc } { s with r := r' }) := Lib.hid ⟨H1.out.r, HB.out.p.grew g0, HB.out.u.grew g0, HB.out.m.grew g0⟩
      go_wp2_with (first | refine lw_bd (by rfl) (.tmp 9) rfl _ rfl kC (by rfl) ?_ | refine lw_bd (by rfl) (.tmp 11) rfl _ rfl kD5 (by rfl) ?_)
      refine (Same_c H1.out.bd HD.out).mono ?_
      rintro e w6 ⟨rfl, g1⟩
      replace kA := kA.grew g1
      replace kC := kC.grew g1
      replace g0 := g0.trans g1
      have yA : w6.cell? ⟨A, 0, none⟩ = some (.slice x.ra s.r.length x.rc) := kA.cell 0
      have yC : w6.cell? ⟨C, 0, none⟩ = some (.slice x'.ra s.r.length x'.rc) := (kC.cell 0).trans (by show some (Value.slice x'.ra r'.length x'.rc) = _; rw [HLN.out])
      clear g1
      go_wp2_with fail
      refine (heads_c (Grew.refl _)).mono ?_
      rintro e wh ⟨rfl, gh⟩
      replace g0 := g0.trans gh
      go_wp2_with fail
      go_ret
      exact ⟨rfl, g0⟩
theorem walk (x : BX) (s : BS) (p : Int) (hp : 0 ≤ p ∧ p < 18446744073709551616) (n : Int) (hn : -9223372036854775808 ≤ n ∧ n ≤ 9223372036854775807) (y : Int) (hy : 0 ≤ y ∧ y < 18446744073709551616) (W : World) (hb : Bd W x s) (mo : MacOf s.c s.m) (bT : 0 ≤ s.T ∧ s.T < 18446744073709551616) (bC : 0 ≤ s.C ∧ s.C < 18446744073709551616) (f : s.p.Fits ∧ s.m.length ≤ 140737488355328) : Calls Tryz.prog 3 #[bdV x s, .int .u64 p, .int .i64 n, .int .u64 y] W fun e w' => e = .returned (.bool true) ∧ Below W.heap.size W w' := by
  cases hs : (decide (s.r.length ≤ 70000) && decide (s.u.i.length ≤ 5000) && decide (s.u.o.length ≤ 5000))
  · exact walk_far x s p n y W hs
  · obtain ⟨h1, h2, h3⟩ := small_false hs
    have ok := bok_of bT bC f h1 h2 h3
    have hI : ∀ b c : Int, inB p b c = (decide (b ≤ p) && decide (p - b < c)) := fun _ _ => rfl
    by_cases d0 : 33554432 ≤ p ∧ p < 33619968
    · exact walk_clint x s p n y W hb d0 (fun w h => store_clint ok h hp.1 hp.2 hy.1 hy.2 (by rw [hI]; simp; omega)) hs
    by_cases d1 : 201326592 ≤ p ∧ p < 205520896
    · exact walk_plic x s p n y W hb d1 (fun w h => store_plic ok h hp.1 hp.2 hy.1 hy.2 (by rw [hI]; simp; omega) (by rw [hI]; simp; omega)) hs
    by_cases d2 : 268435456 ≤ p ∧ p < 268435464
    · refine walk_uart x s p n y W hb d2 (fun w h => (store_uart (n := n) ok h hp.1 hp.2 hy.1 hy.2 (by rw [hI]; simp; omega) (by rw [hI]; simp; omega) (by rw [hI]; simp; omega)).mono ?_) hs
      rintro e w' ⟨x', rfl, H, g⟩
      exact ⟨x', _, _, rfl, H, Lib.hid (fun h => uaStS_no h), g⟩
    by_cases d3 : 268439552 ≤ p ∧ p < 268439808
    · exact walk_nic x s p n y W hb d3 (fun w h => store_nic ok mo h hp.1 hp.2 hy.1 hy.2 (by rw [hI]; simp; omega) (by rw [hI]; simp; omega) (by rw [hI]; simp; omega) (by rw [hI]; simp; omega)) hs
    · refine walk_ram x s p n y W hb (by omega) (fun w h => (store_ram (n := n) ok h hp.1 hp.2 hy.1 hy.2 (by rw [hI]; simp; omega) (by rw [hI]; simp; omega) (by rw [hI]; simp; omega) (by rw [hI]; simp; omega)).mono ?_) hs
      rintro e w' ⟨x', rfl, H, g⟩
      exact ⟨x', _, _, rfl, H, Lib.hid (fun h => writeV_no h), Lib.hid (writeV_length _ _ _ _), g⟩
set_option maxRecDepth 100000 in
theorem lifted (os : Os) (started : os.Started) (H : Type) (enc : TypeId × Value → H) :
    ReturnsInHanded {} Tryz.checked os 3 .any (Rows.busApartSpec.pre6 enc Tryz.prog Tryz.f3 Rows.busApartRow.domain false) (Rows.busApartSpec.post enc Tryz.prog Tryz.f3 false true false false) := by
  refine returnsInHanded_of_change_sized (C := Tryz.checked) own started (by kernel_rfl) Tryz.func3
    (ChangeSpec.witness6 (enc := enc) (C := Tryz.checked) false ⟨#[], #[.agg #[.slice none 0 0, .int .u64 0, .int .u64 0, .bool false, .slice none 0 0, .int .i64 0, .int .i64 0, .slice none 0 0, .slice none 0 0, .slice none 0 0, .slice none 0 0, .int .i64 0, .int .i64 0, .int .i64 0, .int .i64 0, .int .i64 0, .int .u64 0, .int .i64 0, .int .i64 0, .int .i64 0, .int .u64 0, .int .i64 0, .int .i64 0, .int .i64 0, .int .i64 0, .int .i64 0, .slice none 0 0], .int .u64 0, .int .i64 0, .int .u64 0], []⟩ 8 (by kernel_rfl) (by kernel_rfl) (by kernel_rfl) (by kernel_rfl)) ?_
  intro W base args ds gs before hval0 hW _ hz0 _
  have hval : ∀ (j : Nat) t v, Tryz.f3.params[j]? = some t → args[j]? = some v → Value.okWide Tryz.prog W .any base t v := hval0
  have hW' := hW
  obtain ⟨p, q, hA0, hV, rfl, hfz, hnd⟩ := hW
  have hA : DataW.TrodAll enc Tryz.prog W 0 (fun _ => true) true Tryz.f3.params.toList args.toList ds p := hA0
  rw [Tryz.params3] at hA hval
  obtain ⟨v0, vs0, d0, ds0, p0, q0, hargs, rfl, rfl, h0, r'0⟩ := trodAll_cons hA
  obtain ⟨v1, vs1, d1, ds1, p1, q1, rfl, rfl, rfl, h1, r'1⟩ := trodAll_cons r'0
  obtain ⟨v2, vs2, d2, ds2, p2, q2, rfl, rfl, rfl, h2, r'2⟩ := trodAll_cons r'1
  obtain ⟨v3, vs3, d3, ds3, p3, q3, rfl, rfl, rfl, h3, r'3⟩ := trodAll_cons r'2
  obtain ⟨rfl, rfl, rfl⟩ := trodAll_nil r'3
  obtain rfl : args = #[v0, v1, v2, v3] := by cases args; simp_all
  obtain ⟨x0, s0, rfl, k0, mo0, bt0, bc0, f0⟩ := open_board (hval 0 36 v0 rfl rfl) h0
  have fits0 := f0 (fun m hm => by simpa using List.all_eq_true.1 hz0 _ (DataW.weights_mem_each (j := 0) (t := 36) rfl rfl m hm))
  obtain ⟨a1, rfl, rfl, rfl, w1⟩ := open_int Tryz.underlying25 (hval 1 25 v1 rfl rfl) h1
  obtain ⟨a2, rfl, rfl, rfl, w2⟩ := open_int Tryz.underlying3 (hval 2 3 v2 rfl rfl) h2
  obtain ⟨a3, rfl, rfl, rfl, w3⟩ := open_int Tryz.underlying25 (hval 3 25 v3 rfl rfl) h3
  refine (walk x0 s0 a1 (wf_u64 w1) a2 (wf_i64 w2) a3 (wf_u64 w3) W k0 mo0 bt0 bc0 fits0).mono fun e W' ⟨he, hb⟩ => ?_
  subst he
  exact ⟨_, rfl, law_post hW' rfl rfl laid (by kernel_rfl) rfl Tryz.underlying4 hb⟩

theorem over : Rows.busApartRow.holds Tryz.pinned (OpenSpec.ofChange Rows.busApartSpec) :=
  OpenClaim.holds_of_wide 3 Tryz.f3 rfl rfl rfl rfl rfl rfl rfl ⟨rfl, rfl, rfl, rfl, rfl⟩ rfl rfl rfl rfl rfl (by kernel_rfl) Tryz.func3 (by kernel_rfl)
    (of_decide_eq_true (by kernel_rfl)) (by unfold Func.isWrapper; first | (rw [if_pos (by decide +kernel)]; kernel_rfl) | (rw [if_neg (by decide +kernel)]; exact ⟨rfl, rfl⟩))
    (fun os started H enc _ => lifted os started H enc)

theorem proved : Rows.BusApartSaid := over
#print axioms proved
end Go.Proofs.YtgcfmijkggpemaaGreat.busApart
