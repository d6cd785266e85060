/-
  The statement about shifts: one to the left and back keeps the lowest bits, one to the right twice is one by both. For every a, n, m. Conditions: none.
-/
import Derived.Test.YtgekmhcekkmdhaaAluH
import Derived.Test.YtgekmhcekkmdhaaAluM
import Derived.Test.YtgekmhcekkmdhaaLaw
set_option linter.unusedVariables false
set_option linter.unusedSimpArgs false
namespace Go.Proofs.Ytgekmhcekkmdhaa.aluShifts
open Go.ChangeShapes Go.WideShapes Go.ChangeAt Go.RowKit

set_option maxHeartbeats 1000000 in
theorem walk (a : Int) (ha : 0 ≤ a ∧ a < 18446744073709551616) (n : Int) (hn : 0 ≤ n ∧ n < 18446744073709551616) (m : Int) (hm : 0 ≤ m ∧ m < 18446744073709551616) (w : World) :
    Calls Try.prog 5 #[.int .u64 a, .int .u64 n, .int .u64 m] w fun e w' => e = .returned (.bool true) ∧ Below w.heap.size w w' := by
  obtain ⟨a0, a1⟩ := ha
  by_cases h1 : 63 < n
  · go_enter Try.func5, Try.ntmps5
    go_wp2_with fail
    refine (heads_c (Grew.refl w)).mono ?_
    rintro e w1 ⟨rfl, g1⟩
    go_wp2_with fail
    go_ret
    exact ⟨rfl, g1⟩
  · by_cases h2 : 63 - n < m
    · go_enter Try.func5, Try.ntmps5
      go_wp2_with fail
      refine (heads_c (Grew.refl w)).mono ?_
      rintro e w1 ⟨rfl, g1⟩
      go_wp2_with fail
      go_ret
      exact ⟨rfl, g1⟩
    · have n0 := hn.1
      have n1 := hn.2
      have m0 := hm.1
      have m1 := hm.2
      clear hn hm
      have e1 : doPV 1 false a n = sllV a n := by rw [doPV_n, opV_1]
      have e2 : doPV 5 false (sllV a n) n = bits .and .u64 a (18446744073709551615 / 2 ^ n.toNat) := by rw [doPV_n, opV_5, sll_srl a n a0 a1 n0 (by omega)]
      have e3 : doPV 13 false a n = sraV a n := by rw [doPV_n, opV_13]
      have e4 : doPV 13 false (sraV a n) m = sraV a (n + m) := by rw [doPV_n, opV_13, sra_sra a n m n0 m0 (by omega)]
      have e5 : doPV 13 false a (n + m) = sraV a (n + m) := by rw [doPV_n, opV_13]
      have e6 : doPV 1 false a (n + 64) = sllV a n := by rw [doPV_n, opV_1, sll_64]
      have b1 : 0 ≤ sllV a n ∧ sllV a n < 18446744073709551616 := wrap_lt _
      have b2 : 0 ≤ sraV a n ∧ sraV a n < 18446744073709551616 := wrap_lt _
      generalize sllV a n = s at *
      generalize sraV a n = t at *
      generalize sraV a (n + m) = u at *
      have E1 := Lib.hid e1
      have E2 := Lib.hid e2
      have E3 := Lib.hid e3
      have E4 := Lib.hid e4
      have E5 := Lib.hid e5
      have E6 := Lib.hid e6
      clear e1 e2 e3 e4 e5 e6
      go_enter Try.func5, Try.ntmps5
      go_wp2_with fail
      refine (do_is _ _ _ _ _ E1.out a0 a1 n0 n1 (Grew.refl w)).mono ?_
      rintro e w1 ⟨rfl, g1⟩
      go_wp2_with fail
      refine (do_is _ _ _ _ _ E2.out b1.1 b1.2 n0 n1 g1).mono ?_
      rintro e w2 ⟨rfl, g2⟩
      go_wp2_with fail
      refine (do_is _ _ _ _ _ E3.out a0 a1 n0 n1 g2).mono ?_
      rintro e w3 ⟨rfl, g3⟩
      go_wp2_with fail
      refine (do_is _ _ _ _ _ E4.out b2.1 b2.2 m0 m1 g3).mono ?_
      rintro e w4 ⟨rfl, g4⟩
      go_wp2_with fail
      refine (do_is _ _ _ _ _ E5.out a0 a1 (by omega) (by omega) g4).mono ?_
      rintro e w5 ⟨rfl, g5⟩
      go_wp2_with fail
      refine (do_is _ _ _ _ _ E6.out a0 a1 (by omega) (by omega) g5).mono ?_
      rintro e w6 ⟨rfl, g6⟩
      go_wp2_with fail
      refine (do_is _ _ _ _ _ E1.out a0 a1 n0 n1 g6).mono ?_
      rintro e w7 ⟨rfl, g7⟩
      go_wp2_with fail
      refine (heads_c g7).mono ?_
      rintro e w8 ⟨rfl, g8⟩
      go_wp2_with fail
      go_ret
      exact ⟨rfl, g8⟩
set_option maxRecDepth 100000 in
theorem lifted (os : Os) (started : os.Started) (H : Type) (enc : TypeId × Value → H) :
    ReturnsInHanded {} Try.checked os 5 .any (Rows.aluShiftsSpec.pre6 enc Try.prog Try.f5 Rows.aluShiftsRow.domain false) (Rows.aluShiftsSpec.post enc Try.prog Try.f5 false true false false) := by
  refine returnsInHanded_of_change (C := Try.checked) own started (by kernel_rfl) Try.func5
    (ChangeSpec.witness6 (enc := enc) (C := Try.checked) false ⟨#[], #[.int .u64 0, .int .u64 0, .int .u64 0], []⟩ 8 (by kernel_rfl) (by kernel_rfl) (by kernel_rfl) (by kernel_rfl)) ?_
  intro W base args ds gs before hval0 hW _ _
  have hval : ∀ (j : Nat) t v, Try.f5.params[j]? = some t → args[j]? = some v → Value.okWide Try.prog W .any base t v := hval0
  have hW' := hW
  obtain ⟨p, q, hA0, hV, rfl, hfz, hnd⟩ := hW
  have hA : DataW.TrodAll enc Try.prog W 0 (fun _ => true) true Try.f5.params.toList args.toList ds p := hA0
  rw [Try.params5] at hA hval
  obtain ⟨v0, vs0, d0, ds0, p0, q0, hargs, rfl, rfl, h0, r'0⟩ := trodAll_cons hA
  obtain ⟨v1, vs1, d1, ds1, p1, q1, rfl, rfl, rfl, h1, r'1⟩ := trodAll_cons r'0
  obtain ⟨v2, vs2, d2, ds2, p2, q2, rfl, rfl, rfl, h2, r'2⟩ := trodAll_cons r'1
  obtain ⟨rfl, rfl, rfl⟩ := trodAll_nil r'2
  obtain rfl : args = #[v0, v1, v2] := by cases args; simp_all
  obtain ⟨a0, rfl, rfl, rfl, w0⟩ := open_int Try.underlying24 (hval 0 24 v0 rfl rfl) h0
  obtain ⟨a1, rfl, rfl, rfl, w1⟩ := open_int Try.underlying24 (hval 1 24 v1 rfl rfl) h1
  obtain ⟨a2, rfl, rfl, rfl, w2⟩ := open_int Try.underlying24 (hval 2 24 v2 rfl rfl) h2
  refine (walk a0 (wf_u64 w0) a1 (wf_u64 w1) a2 (wf_u64 w2) W).mono fun e W' ⟨he, hb⟩ => ?_
  subst he
  exact ⟨_, rfl, law_post hW' rfl rfl laid (by kernel_rfl) rfl Try.underlying4 hb⟩

theorem over : Rows.aluShiftsRow.holds Try.pinned (OpenSpec.ofChange Rows.aluShiftsSpec) :=
  OpenClaim.holds_of_wide 5 Try.f5 rfl rfl rfl rfl rfl rfl rfl ⟨rfl, rfl, rfl, rfl, rfl⟩ rfl rfl rfl rfl rfl (by kernel_rfl) Try.func5 (by kernel_rfl)
    (of_decide_eq_true (by kernel_rfl)) (by unfold Func.isWrapper; first | (rw [if_pos (by decide +kernel)]; kernel_rfl) | (rw [if_neg (by decide +kernel)]; exact ⟨rfl, rfl⟩))
    (fun os started H enc _ => lifted os started H enc)

theorem proved : Rows.AluShiftsSaid := over
#print axioms proved
end Go.Proofs.Ytgekmhcekkmdhaa.aluShifts
