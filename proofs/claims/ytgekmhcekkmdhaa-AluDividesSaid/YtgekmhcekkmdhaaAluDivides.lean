/-
  The statement about quotients: a number is quotient times divisor and rest, the rest less than the divisor, with the number's sign. For every a and b. Conditions: none.
-/
import Derived.Test.YtgekmhcekkmdhaaAluH
import Derived.Test.YtgekmhcekkmdhaaAluM
import Derived.Test.YtgekmhcekkmdhaaLaw
set_option linter.unusedVariables false
set_option linter.unusedSimpArgs false
namespace Go.Proofs.Ytgekmhcekkmdhaa.aluDivides
open Go.ChangeShapes Go.WideShapes Go.ChangeAt Go.RowKit

set_option maxHeartbeats 2000000 in
theorem walk (a : Int) (ha : 0 ≤ a ∧ a < 18446744073709551616) (b : Int) (hb : 0 ≤ b ∧ b < 18446744073709551616) (w : World) :
    Calls Try.prog 7 #[.int .u64 a, .int .u64 b] w fun e w' => e = .returned (.bool true) ∧ Below w.heap.size w w' := by
  obtain ⟨a0, a1⟩ := ha
  obtain ⟨b0, b1⟩ := hb
  have e1 : doPV 21 false a b = divuV a b := by rw [doPV_n, opV_21]
  have e2 : doPV 23 false a b = remuV a b := by rw [doPV_n, opV_23]
  have e3 : doPV 20 false a b = divV a b := by rw [doPV_n, opV_20]
  have e4 : doPV 22 false a b = remV a b := by rw [doPV_n, opV_22]
  by_cases h : b = 0
  · subst h
    rw [show divuV a 0 = 18446744073709551615 from if_pos rfl] at e1
    rw [show remuV a 0 = a from if_pos rfl] at e2
    rw [show divV a 0 = 18446744073709551615 from if_pos rfl] at e3
    rw [show remV a 0 = a from if_pos rfl] at e4
    have E1 := Lib.hid e1
    have E2 := Lib.hid e2
    have E3 := Lib.hid e3
    have E4 := Lib.hid e4
    clear e1 e2 e3 e4
    go_enter Try.func7, Try.ntmps7
    go_wp2_with fail
    refine (do_is _ _ _ _ _ E1.out a0 a1 b0 b1 (Grew.refl w)).mono ?_
    rintro e w1 ⟨rfl, g1⟩
    go_wp2_with fail
    refine (do_is _ _ _ _ _ E2.out a0 a1 b0 b1 g1).mono ?_
    rintro e w2 ⟨rfl, g2⟩
    go_wp2_with fail
    refine (do_is _ _ _ _ _ E3.out a0 a1 b0 b1 g2).mono ?_
    rintro e w3 ⟨rfl, g3⟩
    go_wp2_with fail
    refine (do_is _ _ _ _ _ E4.out a0 a1 b0 b1 g3).mono ?_
    rintro e w4 ⟨rfl, g4⟩
    go_wp2_with fail
    refine (heads_c g4).mono ?_
    rintro e w5 ⟨rfl, g5⟩
    go_wp2_with fail
    go_ret
    exact ⟨rfl, g5⟩
  · have f1 := divu_rem a b h a0 b0 a1
    have f3 := div_rem a b h a0 a1 b0 b1
    have f4 := rem_sign a b h a0 a1 b0 b1
    have hne : (b == 0) = false := by simpa using h
    generalize divuV a b = q at *
    generalize remuV a b = r at *
    generalize divV a b = s at *
    generalize remV a b = t at *
    obtain ⟨f1, f2⟩ := f1
    have E1 := Lib.hid e1
    have E2 := Lib.hid e2
    have E3 := Lib.hid e3
    have E4 := Lib.hid e4
    clear e1 e2 e3 e4
    rcases f4 with ht | ht
    · subst ht
      rw [Int.add_zero, IntWalk.u64_in _ (by have := wrap_lt (s * b); omega)] at f3
      go_enter Try.func7, Try.ntmps7
      go_wp2_with fail
      refine (do_is _ _ _ _ _ E1.out a0 a1 b0 b1 (Grew.refl w)).mono ?_
      rintro e w1 ⟨rfl, g1⟩
      go_wp2_with fail
      refine (do_is _ _ _ _ _ E2.out a0 a1 b0 b1 g1).mono ?_
      rintro e w2 ⟨rfl, g2⟩
      go_wp2_with fail
      refine (do_is _ _ _ _ _ E3.out a0 a1 b0 b1 g2).mono ?_
      rintro e w3 ⟨rfl, g3⟩
      go_wp2_with fail
      refine (do_is _ _ _ _ _ E4.out a0 a1 b0 b1 g3).mono ?_
      rintro e w4 ⟨rfl, g4⟩
      go_wp2_with fail
      refine (heads_c g4).mono ?_
      rintro e w5 ⟨rfl, g5⟩
      go_wp2_with fail
      go_ret
      exact ⟨rfl, g5⟩
    · by_cases h0 : t = 0
      · subst h0
        clear ht
        rw [Int.add_zero, IntWalk.u64_in _ (by have := wrap_lt (s * b); omega)] at f3
        go_enter Try.func7, Try.ntmps7
        go_wp2_with fail
        refine (do_is _ _ _ _ _ E1.out a0 a1 b0 b1 (Grew.refl w)).mono ?_
        rintro e w1 ⟨rfl, g1⟩
        go_wp2_with fail
        refine (do_is _ _ _ _ _ E2.out a0 a1 b0 b1 g1).mono ?_
        rintro e w2 ⟨rfl, g2⟩
        go_wp2_with fail
        refine (do_is _ _ _ _ _ E3.out a0 a1 b0 b1 g2).mono ?_
        rintro e w3 ⟨rfl, g3⟩
        go_wp2_with fail
        refine (do_is _ _ _ _ _ E4.out a0 a1 b0 b1 g3).mono ?_
        rintro e w4 ⟨rfl, g4⟩
        go_wp2_with fail
        refine (heads_c g4).mono ?_
        rintro e w5 ⟨rfl, g5⟩
        go_wp2_with fail
        go_ret
        exact ⟨rfl, g5⟩
      · have h1 : (t == 0) = false := by simpa using h0
        clear h0
        have HT := Lib.hid ht
        clear ht
        go_enter Try.func7, Try.ntmps7
        go_wp2_with fail
        refine (do_is _ _ _ _ _ E1.out a0 a1 b0 b1 (Grew.refl w)).mono ?_
        rintro e w1 ⟨rfl, g1⟩
        go_wp2_with fail
        refine (do_is _ _ _ _ _ E2.out a0 a1 b0 b1 g1).mono ?_
        rintro e w2 ⟨rfl, g2⟩
        go_wp2_with fail
        refine (do_is _ _ _ _ _ E3.out a0 a1 b0 b1 g2).mono ?_
        rintro e w3 ⟨rfl, g3⟩
        go_wp2_with fail
        refine (do_is _ _ _ _ _ E4.out a0 a1 b0 b1 g3).mono ?_
        rintro e w4 ⟨rfl, g4⟩
        go_wp2_with fail
        refine (neg_c _ _).mono ?_
        rintro e w' ⟨rfl, h'⟩
        obtain rfl := h'.symm
        rw [HT.out]
        go_wp2_with fail
        refine (neg_c _ _).mono ?_
        rintro e w' ⟨rfl, h'⟩
        obtain rfl := h'.symm
        go_wp2_with fail
        refine (heads_c g4).mono ?_
        rintro e w5 ⟨rfl, g5⟩
        go_wp2_with fail
        go_ret
        exact ⟨rfl, g5⟩
set_option maxRecDepth 100000 in
theorem lifted (os : Os) (started : os.Started) (H : Type) (enc : TypeId × Value → H) :
    ReturnsInHanded {} Try.checked os 7 .any (Rows.aluDividesSpec.pre6 enc Try.prog Try.f7 Rows.aluDividesRow.domain false) (Rows.aluDividesSpec.post enc Try.prog Try.f7 false true false false) := by
  refine returnsInHanded_of_change (C := Try.checked) own started (by kernel_rfl) Try.func7
    (ChangeSpec.witness6 (enc := enc) (C := Try.checked) false ⟨#[], #[.int .u64 0, .int .u64 0], []⟩ 8 (by kernel_rfl) (by kernel_rfl) (by kernel_rfl) (by kernel_rfl)) ?_
  intro W base args ds gs before hval0 hW _ _
  have hval : ∀ (j : Nat) t v, Try.f7.params[j]? = some t → args[j]? = some v → Value.okWide Try.prog W .any base t v := hval0
  have hW' := hW
  obtain ⟨p, q, hA0, hV, rfl, hfz, hnd⟩ := hW
  have hA : DataW.TrodAll enc Try.prog W 0 (fun _ => true) true Try.f7.params.toList args.toList ds p := hA0
  rw [Try.params7] at hA hval
  obtain ⟨v0, vs0, d0, ds0, p0, q0, hargs, rfl, rfl, h0, r'0⟩ := trodAll_cons hA
  obtain ⟨v1, vs1, d1, ds1, p1, q1, rfl, rfl, rfl, h1, r'1⟩ := trodAll_cons r'0
  obtain ⟨rfl, rfl, rfl⟩ := trodAll_nil r'1
  obtain rfl : args = #[v0, v1] := by cases args; simp_all
  obtain ⟨a0, rfl, rfl, rfl, w0⟩ := open_int Try.underlying24 (hval 0 24 v0 rfl rfl) h0
  obtain ⟨a1, rfl, rfl, rfl, w1⟩ := open_int Try.underlying24 (hval 1 24 v1 rfl rfl) h1
  refine (walk a0 (wf_u64 w0) a1 (wf_u64 w1) W).mono fun e W' ⟨he, hb⟩ => ?_
  subst he
  exact ⟨_, rfl, law_post hW' rfl rfl laid (by kernel_rfl) rfl Try.underlying4 hb⟩

theorem over : Rows.aluDividesRow.holds Try.pinned (OpenSpec.ofChange Rows.aluDividesSpec) :=
  OpenClaim.holds_of_wide 7 Try.f7 rfl rfl rfl rfl rfl rfl rfl ⟨rfl, rfl, rfl, rfl, rfl⟩ rfl rfl rfl rfl rfl (by kernel_rfl) Try.func7 (by kernel_rfl)
    (of_decide_eq_true (by kernel_rfl)) (by unfold Func.isWrapper; first | (rw [if_pos (by decide +kernel)]; kernel_rfl) | (rw [if_neg (by decide +kernel)]; exact ⟨rfl, rfl⟩))
    (fun os started H enc _ => lifted os started H enc)

theorem proved : Rows.AluDividesSaid := over
#print axioms proved
end Go.Proofs.Ytgekmhcekkmdhaa.aluDivides
