/-
  The statement that lines are told the same again, as long as nobody does anything. For every board. Conditions: none.
-/
import Derived.Test.YtgcfmijkggpemaaGreatRows
import Derived.Test.YtgcfmijkggpemaaGreatBuM
import Derived.Test.YtgcfmijkggpemaaGreatLaw
import Derived.Deep.QuietTactic
import Derived.BigQuiet
import Derived.Deep.DeepCutAuto
set_option maxRecDepth 4000
set_option linter.unusedVariables false
set_option linter.unusedSimpArgs false
namespace Go.Proofs.YtgcfmijkggpemaaGreat.busQuiet
open Go.ChangeShapes Go.WideShapes Go.ChangeAt Go.RowKit
set_option maxHeartbeats 2000000 in
theorem walk_far (x : BX) (s : BS) (W : World) (hs : (decide (s.r.length ≤ 70000) && decide (s.u.i.length ≤ 5000) && decide (s.u.o.length ≤ 5000)) = false) : Calls Tryz.prog 5 #[bdV x s] W fun e w' => e = .returned (.bool true) ∧ Below W.heap.size W w' := by
  have hS := small_c (x := x) (s := s)
  rw [hs] at hS
  have HS := Lib.hid hS
  clear hS hs
  go_enter Tryz.func5, Tryz.ntmps5
  go_upto_region 1 with fail
  have kA : Blk (W.alloc (.cells (bdA x s) 36)) W.heap.size (bdA x s) 36 := Blk.new _ _ _ _ rfl
  have g0 : Grew W (W.alloc (.cells (bdA x s) 36)) := (Grew.refl W).alloc _
  generalize (W.alloc (.cells (bdA x s) 36)) = w0 at *
  have lA : W.heap.size ≤ W.heap.size := Nat.le_refl _
  generalize hZ : W.heap.size = A at *
  have HZ := Lib.hid hZ
  clear hZ lA
  go_wp2_with (refine ld_bd rfl (.tmp 1) rfl _ rfl kA (by rfl) ?_)
  refine (HS.out _).mono ?_
  rintro e w1 ⟨rfl, g1⟩
  replace kA := kA.grew g1
  replace g0 := g0.trans g1
  clear g1
  go_wp2_with fail
  refine (heads_c (Grew.refl _)).mono ?_
  rintro e wh ⟨rfl, gh⟩
  replace g0 := g0.trans gh
  go_wp2_with fail
  go_ret
  exact ⟨rfl, g0⟩
set_option maxHeartbeats 4000000 in
theorem walk_near (x : BX) (s : BS) (W : World) (hb : Bd W x s) (s1 : BS) (h1 : setB s = s1) (h2 : setB s1 = s1) (lv : Int) (hl : linesV s1 = lv) (han : bits .andNot .u64 lv 2696 = 0) (ok : BOk s) (ok1 : BOk s1) (hs : (decide (s.r.length ≤ 70000) && decide (s.u.i.length ≤ 5000) && decide (s.u.o.length ≤ 5000)) = true) : Calls Tryz.prog 5 #[bdV x s] W fun e w' => e = .returned (.bool true) ∧ Below W.heap.size W w' := by
  have hS := small_c (x := x) (s := s)
  rw [hs] at hS
  have HS := Lib.hid hS
  have F1 : Hid (∀ w, Bd w x s → Calls Tryz.prog 12 #[bdV x s] w fun e w' => ∃ x', e = .returned (.tuple #[bdV x' s1, .int .u64 lv]) ∧ Hid (Bdr w' x' s1) ∧ Grew w w') := Lib.hid (fun w h => by have := lines_B ok (by rw [h1]; exact ok1) h; rw [h1, hl] at this; exact this)
  have F2 : Hid (∀ w y, Bd w y s1 → Calls Tryz.prog 12 #[bdV y s1] w fun e w' => ∃ x', e = .returned (.tuple #[bdV x' s1, .int .u64 lv]) ∧ Hid (Bdr w' x' s1) ∧ Grew w w') := Lib.hid (fun w y h => by have := lines_B ok1 (by rw [h2]; exact ok1) h; rw [h2, hl] at this; exact this)
  have HB := Lib.hid hb
  have HAN := Lib.hid han
  clear hS hs h1 h2 hl han ok ok1 hb
  go_enter Tryz.func5, Tryz.ntmps5
  go_upto_region 1 with fail
  have kA : Blk (W.alloc (.cells (bdA x s) 36)) W.heap.size (bdA x s) 36 := Blk.new _ _ _ _ rfl
  have g0 : Grew W (W.alloc (.cells (bdA x s) 36)) := (Grew.refl W).alloc _
  generalize (W.alloc (.cells (bdA x s) 36)) = w0 at *
  have lA : W.heap.size ≤ W.heap.size := Nat.le_refl _
  generalize hZ : W.heap.size = A at *
  have HZ := Lib.hid hZ
  clear hZ lA
  go_wp2_with (refine ld_bd rfl (.tmp 1) rfl _ rfl kA (by rfl) ?_)
  refine (HS.out _).mono ?_
  rintro e w1 ⟨rfl, g1⟩
  replace kA := kA.grew g1
  replace g0 := g0.trans g1
  clear g1
  go_wp2_with (refine ld_bd rfl (.tmp 1) rfl _ rfl kA (by rfl) ?_)
  refine (F1.out _ (HB.out.grew g0)).mono ?_
  rintro e w2 ⟨x1, rfl, H1, g1⟩
  replace kA := kA.grew g1
  replace g0 := g0.trans g1
  clear g1 kA
  have lS := g0.size
  go_upto_region 4 with (refine st_bd rfl (.tmp 3) (.tmp 14) rfl rfl x1 s1 (Blk.new w2 zeroB 36 _ rfl) rfl (by rfl) (by rfl) ?_; intro w3 kC oo)
  have kz : Blk (w2.alloc (.cells zeroB 36)) w2.heap.size zeroB 36 := Blk.new _ _ _ _ rfl
  replace g0 : Grew W w3 := oo.grew (g0.alloc _) lS
  have LC : Hid (W.heap.size ≤ w2.heap.size) := Lib.hid lS
  replace H1 := Lib.hid ((H1.out.grew ((Grew.refl w2).alloc _)).only oo kz nb_zero (by decide))
  clear oo kz lS
  generalize w2.heap.size = C at *
  go_wp2_with (refine ld_bd rfl (.tmp 3) rfl _ rfl kC (by rfl) ?_)
  refine (F2.out _ _ H1.out.bd).mono ?_
  rintro e w4 ⟨x2, rfl, H2, g1⟩
  replace kC := kC.grew g1
  replace H1 := Lib.hid (H1.out.grew g1)
  replace g0 := g0.trans g1
  clear g1
  have lS := g0.size
  have lC := kC.lt
  go_upto_region 5 with (refine st_bd rfl (.tmp 5) (.tmp 19) rfl rfl x2 s1 (Blk.new w4 zeroB 36 _ rfl) rfl (by rfl) (by rfl) ?_; intro w5 kD oo)
  have kz : Blk (w4.alloc (.cells zeroB 36)) w4.heap.size zeroB 36 := Blk.new _ _ _ _ rfl
  replace kC := (kC.alloc (.cells zeroB 36)).only oo (by omega)
  have nCD : C ≠ w4.heap.size := by omega
  clear lC
  replace g0 : Grew W w5 := oo.grew (g0.alloc _) lS
  have LD : Hid (W.heap.size ≤ w4.heap.size) := Lib.hid lS
  replace H1 := Lib.hid ((H1.out.grew ((Grew.refl w4).alloc _)).only oo kz nb_zero (by decide))
  replace H2 := Lib.hid ((H2.out.grew ((Grew.refl w4).alloc _)).only oo kz nb_zero (by decide))
  clear oo kz lS
  generalize w4.heap.size = D at *
  go_wp2_with (first | refine lw_bd (by rfl) (.tmp 3) rfl _ rfl kC (by rfl) ?_ | refine lw_bd (by rfl) (.tmp 5) rfl _ rfl kD (by rfl) ?_)
  refine (Same_c H1.out.bd H2.out.bd).mono ?_
  rintro e w6 ⟨rfl, g1⟩
  replace g0 := g0.trans g1
  have han := HAN.out
  go_wp2_with fail
  refine (heads_c (Grew.refl _)).mono ?_
  rintro e wh ⟨rfl, gh⟩
  replace g0 := g0.trans gh
  go_wp2_with fail
  go_ret
  exact ⟨rfl, g0⟩
theorem walk (x : BX) (s : BS) (W : World) (hb : Bd W x s) (_mo : MacOf s.c s.m) (bT : 0 ≤ s.T ∧ s.T < 18446744073709551616) (bC : 0 ≤ s.C ∧ s.C < 18446744073709551616) (f : s.p.Fits ∧ s.m.length ≤ 140737488355328) : Calls Tryz.prog 5 #[bdV x s] W fun e w' => e = .returned (.bool true) ∧ Below W.heap.size W w' := by
  cases hs : (decide (s.r.length ≤ 70000) && decide (s.u.i.length ≤ 5000) && decide (s.u.o.length ≤ 5000))
  · exact walk_far x s W hs
  · obtain ⟨h1, h2, h3⟩ := small_false hs
    have ok := bok_of bT bC f h1 h2 h3
    exact walk_near x s W hb (setB s) rfl (setB_again hb) _ rfl (lines_bits _) ok (ok.setB hb) hs
set_option maxRecDepth 100000 in
theorem lifted (os : Os) (started : os.Started) (H : Type) (enc : TypeId × Value → H) :
    ReturnsInHanded {} Tryz.checked os 5 .any (Rows.busQuietSpec.pre6 enc Tryz.prog Tryz.f5 Rows.busQuietRow.domain false) (Rows.busQuietSpec.post enc Tryz.prog Tryz.f5 false true false false) := by
  refine returnsInHanded_of_change_sized (C := Tryz.checked) own started (by kernel_rfl) Tryz.func5
    (ChangeSpec.witness6 (enc := enc) (C := Tryz.checked) false ⟨#[], #[.agg #[.slice none 0 0, .int .u64 0, .int .u64 0, .bool false, .slice none 0 0, .int .i64 0, .int .i64 0, .slice none 0 0, .slice none 0 0, .slice none 0 0, .slice none 0 0, .int .i64 0, .int .i64 0, .int .i64 0, .int .i64 0, .int .i64 0, .int .u64 0, .int .i64 0, .int .i64 0, .int .i64 0, .int .u64 0, .int .i64 0, .int .i64 0, .int .i64 0, .int .i64 0, .int .i64 0, .slice none 0 0]], []⟩ 8 (by kernel_rfl) (by kernel_rfl) (by kernel_rfl) (by kernel_rfl)) ?_
  intro W base args ds gs before hval0 hW _ hz0 _
  have hval : ∀ (j : Nat) t v, Tryz.f5.params[j]? = some t → args[j]? = some v → Value.okWide Tryz.prog W .any base t v := hval0
  have hW' := hW
  obtain ⟨p, q, hA0, hV, rfl, hfz, hnd⟩ := hW
  have hA : DataW.TrodAll enc Tryz.prog W 0 (fun _ => true) true Tryz.f5.params.toList args.toList ds p := hA0
  rw [Tryz.params5] at hA hval
  obtain ⟨v0, vs0, d0, ds0, p0, q0, hargs, rfl, rfl, h0, r'0⟩ := trodAll_cons hA
  obtain ⟨rfl, rfl, rfl⟩ := trodAll_nil r'0
  obtain rfl : args = #[v0] := by cases args; simp_all
  obtain ⟨x0, s0, rfl, k0, mo0, bt0, bc0, f0⟩ := open_board (hval 0 36 v0 rfl rfl) h0
  have fits0 := f0 (fun m hm => by simpa using List.all_eq_true.1 hz0 _ (DataW.weights_mem_each (j := 0) (t := 36) rfl rfl m hm))
  refine (walk x0 s0 W k0 mo0 bt0 bc0 fits0).mono fun e W' ⟨he, hb⟩ => ?_
  subst he
  exact ⟨_, rfl, law_post hW' rfl rfl laid (by kernel_rfl) rfl Tryz.underlying4 hb⟩

theorem over : Rows.busQuietRow.holds Tryz.pinned (OpenSpec.ofChange Rows.busQuietSpec) :=
  OpenClaim.holds_of_wide 5 Tryz.f5 rfl rfl rfl rfl rfl rfl rfl ⟨rfl, rfl, rfl, rfl, rfl⟩ rfl rfl rfl rfl rfl (by kernel_rfl) Tryz.func5 (by kernel_rfl)
    (of_decide_eq_true (by kernel_rfl)) (by unfold Func.isWrapper; first | (rw [if_pos (by decide +kernel)]; kernel_rfl) | (rw [if_neg (by decide +kernel)]; exact ⟨rfl, rfl⟩))
    (fun os started H enc _ => lifted os started H enc)

theorem proved : Rows.BusQuietSaid := over
#print axioms proved
end Go.Proofs.YtgcfmijkggpemaaGreat.busQuiet
