/-
  The statement that a timer that is past stays past, tick by tick, until Time turns over. For every timer and number. Conditions: none.
-/
import Derived.Test.YtlngmjbjjahncaaRows
import Derived.Test.YtlngmjbjjahncaaClH
import Derived.Test.YtlngmjbjjahncaaLaw
import Derived.Deep.QuietTactic
import Derived.BigQuiet
import Derived.Deep.DeepCutAuto
set_option linter.unusedVariables false
set_option linter.unusedSimpArgs false
namespace Go.Proofs.Ytlngmjbjjahncaa.clintPast
open Go.ChangeShapes Go.WideShapes Go.ChangeAt Go.RowKit

theorem walk_out (T C : Int) (S : Bool) (n : Int) (hn : n < 0 ∨ (0 ≤ n ∧ 1000 < n)) (W : World) : Calls Try.prog 5 #[.agg #[.int .u64 T, .int .u64 C, .bool S], .int .i64 n] W fun e w' => e = .returned (.bool true) ∧ Below W.heap.size W w' := by
  rcases hn with h1 | ⟨h1, h2⟩
  all_goals
    go_enter Try.func5, Try.ntmps5
    go_wp2_with (go_at_call 14; refine (heads_c ((Grew.refl W).alloc _)).mono ?_; rintro e w1 ⟨rfl, g1⟩)
    go_ret
    exact ⟨rfl, g1⟩

def tk (T : Int) (k : Nat) : Int := (T + k) % 18446744073709551616
theorem tk_next (T : Int) (k : Nat) : IntKind.u64.wrap (tk T k + 1) = tk T (k + 1) := by rw [wrap_u64]; unfold tk; omega
theorem tk_sub (T : Int) (k : Nat) (h0 : 0 ≤ T) (h1 : T < 18446744073709551616) (hk : k ≤ 1000) : IntKind.u64.wrap (tk T k - T) = (k : Int) := by rw [wrap_u64]; unfold tk; omega
theorem tk_lt (T : Int) (k : Nat) : 0 ≤ tk T k ∧ tk T k < 18446744073709551616 := by unfold tk; omega
set_option maxHeartbeats 2000000 in
theorem walk_past (T C : Int) (S : Bool) (n : Nat) (h0 : 0 ≤ T) (h1 : T < 18446744073709551616) (hn : n ≤ 1000) (W : World) : Calls Try.prog 5 #[.agg #[.int .u64 T, .int .u64 C, .bool S], .int .i64 (n : Nat)] W fun e w' => e = .returned (.bool true) ∧ Below W.heap.size W w' := by
  have hn0 : (0 : Int) ≤ (n : Int) := by omega
  have hn1 : (n : Int) ≤ 1000 := by omega
  obtain ⟨t, ht⟩ : ∃ t, t = tk T n := ⟨_, rfl⟩
  have HK := Lib.hid (fun k : Nat => tk_next T k)
  have HS := Lib.hid (tk_sub T n h0 h1 hn)
  have HZ := Lib.hid (show tk T 0 = T by unfold tk; omega)
  have HTt := Lib.hid ht
  have HTl := Lib.hid (tk_lt T n)
  go_enter Try.func5, Try.ntmps5
  go_upto_region 3 with fail
  have kd : Blk (W.alloc (.cells #[.int .u64 T, .int .u64 C, .bool S] 24)) W.heap.size #[.int .u64 T, .int .u64 C, .bool S] 24 := Blk.new _ _ _ _ rfl
  have g0 : Grew W (W.alloc (.cells #[.int .u64 T, .int .u64 C, .bool S] 24)) := (Grew.refl W).alloc _
  generalize (W.alloc (.cells #[.int .u64 T, .int .u64 C, .bool S] 24)) = w0 at *
  generalize W.heap.size = D at *
  have c0 := (kd).cell 0
  have c1 := (kd).cell 1
  have c2 := (kd).cell 2
  go_upto_region 4 with fail
  have hlt := kd.lt
  have hE0 := g0.size
  have ke : Blk (w0.alloc (.cells #[.int .u64 T, .int .u64 C, .bool S] 24)) w0.heap.size #[.int .u64 T, .int .u64 C, .bool S] 24 := Blk.new _ _ _ _ rfl
  have q0 : Grew w0 (w0.alloc (.cells #[.int .u64 T, .int .u64 C, .bool S] 24)) := (Grew.refl w0).alloc _
  have g1 : Grew W (w0.alloc (.cells #[.int .u64 T, .int .u64 C, .bool S] 24)) := (g0).alloc _
  generalize (w0.alloc (.cells #[.int .u64 T, .int .u64 C, .bool S] 24)) = w1 at *
  have q1 : Grew w0 w1 := q0
  generalize w0.heap.size = E at *
  have kd1 := kd.grew q1
  have hDE : D ≠ E := Nat.ne_of_lt hlt
  clear c0 c1 c2 kd g0 q0 q1
  go_wp2_with fail
  go_loopw [6] (fun i wr => ∃ k : Nat, k ≤ n ∧ i = .int .i64 k ∧ Hid (Blk wr D #[.int .u64 T, .int .u64 C, .bool S] 24) ∧ Hid (Blk wr E #[.int .u64 (tk T k), .int .u64 C, .bool S] 24) ∧ Grew W wr) (fun i _ => n - (intOf i).toNat)
  case atStart => exact ⟨0, Nat.zero_le _, rfl, Lib.hid kd1, Lib.hid (by rw [HZ.out]; exact ke), g1⟩
  case round =>
    obtain ⟨k, hk, rfl, HD, HE, gr⟩ := hrel
    clear kd1 ke g1
    have kd := HD.out
    have ke := HE.out
    have c0 := kd.cell 0
    have c1 := kd.cell 1
    have c2 := kd.cell 2
    have b0 := ke.cell 0
    have b1 := ke.cell 1
    have b2 := ke.cell 2
    by_cases hlt' : k < n
    · have hlt'' : (k : Int) < (n : Int) := by omega
      have hC := fun W w (g : Grew W w) => tick_c (tk T k) C S g
      rw [HK.out k] at hC
      have HC := Lib.hid hC
      clear hC
      go_upto_region 7 with fail
      go_wp2_with (go_at_call 12; refine (HC.out wr wr (Grew.refl wr)).mono ?_; rintro e w2 ⟨rfl, g2⟩; have kd2 := kd.grew g2; have ke2 := ke.grew g2; have d0 := ke2.cell 0; have d1 := ke2.cell 1; have d2 := ke2.cell 2; have f0 := ke2.free 0; have f1 := ke2.free 1; have f2 := ke2.free 2)
      go_roundw
      case rel => exact ⟨k + 1, by omega, by go_num, Lib.hid (((kd2.other hDE _).other hDE _).other hDE _), Lib.hid (((ke2.set (o := 0) _).set (o := 1) _).set (o := 2) _), (((gr.trans g2).setCell hE0 _).setCell hE0 _).setCell hE0 _⟩
      case measure => simp [intOf]; omega
    · obtain rfl : k = n := by omega
      have hnl : ¬ ((k : Int) < (k : Int)) := by omega
      rw [← HTt.out] at ke HE HS HTl HTt
      have el := HS.out
      obtain ⟨t0, t1⟩ := HTl.out
      clear hlt' hk HK HZ HTl HS HTt ht b0 b1 b2
      have b0 := ke.cell 0
      have b1 := ke.cell 1
      have b2 := ke.cell 2
      have hor : decide (C ≤ T) = true → decide (C ≤ t) = false → decide (t < T) = true := by
        simp only [decide_eq_true_eq, decide_eq_false_iff_not]
        omega
      have HO := Lib.hid hor
      clear hor
      cases hw : decide (C ≤ T) <;> cases hi : decide (C ≤ t) <;> cases hl : decide (t < T)
      case true.false.false => have := HO.out hw hi; rw [hl] at this; cases this
      all_goals
        have hL1 := fun W w (g : Grew W w) => lines_c T C S g
        have hL2 := fun W w (g : Grew W w) => lines_c t C S g
        rw [hw] at hL1
        rw [hi] at hL2
        have HL1 := Lib.hid hL1
        have HL2 := Lib.hid hL2
        clear hL1 hL2
        go_upto_region 9 with (go_at_call 10; refine (HL1.out wr _ (Grew.refl wr)).mono ?_; rintro e w2 ⟨rfl, g2⟩)
        have kd2 := kd.grew g2
        have ke2 := ke.grew g2
        clear c0 c1 c2 b0 b1 b2
        have b0 := ke2.cell 0
        have b1 := ke2.cell 1
        have b2 := ke2.cell 2
        go_upto_region 10 with (go_at_call 10; refine (HL2.out w2 _ (Grew.refl w2)).mono ?_; rintro e w3 ⟨rfl, g3⟩)
        have kd3 := kd2.grew g3
        have ke3 := ke2.grew g3
        clear b0 b1 b2
        have b0 := ke3.cell 0
        have b1 := ke3.cell 1
        have b2 := ke3.cell 2
        have c0 := kd3.cell 0
        have c1 := kd3.cell 1
        have c2 := kd3.cell 2
        have eS : (S != S) = false := by simp
        have eC : (C != C) = false := by simp
        have eN : ((k : Int) != (k : Int)) = false := by simp
        go_wp2_with (go_at_call 14; refine (heads_c (Grew.refl w3)).mono ?_; rintro e w4 ⟨rfl, g4⟩)
        go_ret
        exact ⟨rfl, ((gr.trans g2).trans g3).trans g4⟩

theorem walk (T C : Int) (S : Bool) (hT : 0 ≤ T ∧ T < 18446744073709551616) (_hC : 0 ≤ C ∧ C < 18446744073709551616) (n : Int) (_hn : -9223372036854775808 ≤ n ∧ n ≤ 9223372036854775807) (W : World) : Calls Try.prog 5 #[.agg #[.int .u64 T, .int .u64 C, .bool S], .int .i64 n] W fun e w' => e = .returned (.bool true) ∧ Below W.heap.size W w' := by
  by_cases h : n < 0 ∨ (0 ≤ n ∧ 1000 < n)
  · exact walk_out T C S n h W
  · obtain ⟨k, rfl⟩ := Int.eq_ofNat_of_zero_le (show 0 ≤ n by omega)
    exact walk_past T C S k hT.1 hT.2 (by omega) W
set_option maxRecDepth 100000 in
theorem lifted (os : Os) (started : os.Started) (H : Type) (enc : TypeId × Value → H) :
    ReturnsInHanded {} Try.checked os 5 .any (Rows.clintPastSpec.pre6 enc Try.prog Try.f5 Rows.clintPastRow.domain false) (Rows.clintPastSpec.post enc Try.prog Try.f5 false true false false) := by
  refine returnsInHanded_of_change (C := Try.checked) own started (by kernel_rfl) Try.func5
    (ChangeSpec.witness6 (enc := enc) (C := Try.checked) false ⟨#[], #[.agg #[.int .u64 0, .int .u64 0, .bool false], .int .i64 0], []⟩ 8 (by kernel_rfl) (by kernel_rfl) (by kernel_rfl) (by kernel_rfl)) ?_
  intro W base args ds gs before hval0 hW _ _
  have hval : ∀ (j : Nat) t v, Try.f5.params[j]? = some t → args[j]? = some v → Value.okWide Try.prog W .any base t v := hval0
  have hW' := hW
  obtain ⟨p, q, hA0, hV, rfl, hfz, hnd⟩ := hW
  have hA : DataW.TrodAll enc Try.prog W 0 (fun _ => true) true Try.f5.params.toList args.toList ds p := hA0
  rw [Try.params5] at hA hval
  obtain ⟨v0, vs0, d0, ds0, p0, q0, hargs, rfl, rfl, h0, r'0⟩ := trodAll_cons hA
  obtain ⟨v1, vs1, d1, ds1, p1, q1, rfl, rfl, rfl, h1, r'1⟩ := trodAll_cons r'0
  obtain ⟨rfl, rfl, rfl⟩ := trodAll_nil r'1
  obtain rfl : args = #[v0, v1] := by cases args; simp_all
  obtain ⟨t0, c0, s0, rfl, wt0, wc0⟩ := open_clint (hval 0 24 v0 rfl rfl) h0
  obtain ⟨a1, rfl, rfl, rfl, w1⟩ := open_int Try.underlying3 (hval 1 3 v1 rfl rfl) h1
  refine (walk t0 c0 s0 wt0 wc0 a1 (wf_i64 w1) W).mono fun e W' ⟨he, hb⟩ => ?_
  subst he
  exact ⟨_, rfl, law_post hW' rfl rfl laid (by kernel_rfl) rfl Try.underlying4 hb⟩

theorem over : Rows.clintPastRow.holds Try.pinned (OpenSpec.ofChange Rows.clintPastSpec) :=
  OpenClaim.holds_of_wide 5 Try.f5 rfl rfl rfl rfl rfl rfl rfl ⟨rfl, rfl, rfl, rfl, rfl⟩ rfl rfl rfl rfl rfl (by kernel_rfl) Try.func5 (by kernel_rfl)
    (of_decide_eq_true (by kernel_rfl)) (by unfold Func.isWrapper; first | (rw [if_pos (by decide +kernel)]; kernel_rfl) | (rw [if_neg (by decide +kernel)]; exact ⟨rfl, rfl⟩))
    (fun os started H enc _ => lifted os started H enc)

theorem proved : Rows.ClintPastSaid := over
#print axioms proved
end Go.Proofs.Ytlngmjbjjahncaa.clintPast
