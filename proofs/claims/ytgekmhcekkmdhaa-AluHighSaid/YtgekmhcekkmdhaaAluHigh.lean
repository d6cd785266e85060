/-
  The statement about the upper half of a product: what is multiplied by 2^k comes out of the top; both ways round alike. For every a and k. Conditions: none.
-/
import Derived.Test.YtgekmhcekkmdhaaAluH
import Derived.Test.YtgekmhcekkmdhaaAluM
import Derived.Test.YtgekmhcekkmdhaaLaw
import Derived.Deep.DeepCutAuto
set_option linter.unusedVariables false
set_option linter.unusedSimpArgs false
namespace Go.Proofs.Ytgekmhcekkmdhaa.aluHigh
open Go Go.ChangeShapes Go.WideShapes Go.ChangeAt Go.RowKit

/-- The upper half of a times all ones: a name, so that the walk meets no function at a great numeral. -/
def hiM (a : Int) : Int := hisV a 18446744073709551615
theorem high_l (a : Int) : doPV 17 false a 18446744073709551615 = hiM a := by rw [doPV_n, opV_17]; rfl
theorem high_r (a : Int) (a0 : 0 ≤ a) (a1 : a < 18446744073709551616) : doPV 17 false 18446744073709551615 a = hiM a := by rw [doPV_n, opV_17, his_comm _ _ (by decide) (by decide) a0 a1]; rfl
theorem high_facts (a k : Int) (a0 : 0 ≤ a) (k0 : 1 ≤ k) (k1 : k ≤ 63) : ∃ P : Int, Hid (IntKind.u64.wrap (2 ^ k.toNat) = P) ∧ Hid (doPV 19 false a P = a / 2 ^ (64 - k).toNat) ∧
    Hid (doPV 16 false a P = IntKind.u64.wrap (a * 2 ^ k.toNat)) ∧ Hid (doPV 19 false P a = a / 2 ^ (64 - k).toNat) ∧ 0 ≤ P ∧ P < 18446744073709551616 := by
  have hp := pow_le_63 (m := k.toNat) (by omega)
  refine ⟨2 ^ k.toNat, Lib.hid (IntWalk.u64_in _ (by omega)), Lib.hid ?_, Lib.hid ?_, Lib.hid ?_, by omega, by omega⟩
  · rw [doPV_n, opV_19, hi_pow a k a0 k0 k1]
  · rw [doPV_n, opV_16]; rfl
  · rw [doPV_n, opV_19, hi_comm, hi_pow a k a0 k0 k1]
set_option maxRecDepth 100000 in
set_option maxHeartbeats 2000000 in
theorem walk (a : Int) (ha : 0 ≤ a ∧ a < 18446744073709551616) (k : Int) (hk : -9223372036854775808 ≤ k ∧ k ≤ 9223372036854775807) (w : World) :
    Calls Try.prog 8 #[.int .u64 a, .int .i64 k] w fun e w' => e = .returned (.bool true) ∧ Below w.heap.size w w' := by
  obtain ⟨a0, a1⟩ := ha
  by_cases h1 : k < 1
  · go_enter Try.func8, Try.ntmps8
    go_wp2_with fail
    refine (heads_c (Grew.refl w)).mono ?_
    rintro e w1 ⟨rfl, g1⟩
    go_wp2_with fail
    go_ret
    exact ⟨rfl, g1⟩
  · by_cases h2 : 63 < k
    · go_enter Try.func8, Try.ntmps8
      go_wp2_with fail
      refine (heads_c (Grew.refl w)).mono ?_
      rintro e w1 ⟨rfl, g1⟩
      go_wp2_with fail
      go_ret
      exact ⟨rfl, g1⟩
    · have k0 : 1 ≤ k := by omega
      have k1 : k ≤ 63 := by omega
      clear h1 h2 hk
      go_enter Try.func8, Try.ntmps8
      go_upto_region 4 with fail
      obtain ⟨P, hw, E1, E2, E3, P0, P1⟩ := high_facts a k a0 k0 k1
      rw [hw.out]
      clear hw
      go_wp2_with fail
      refine (do_is _ _ _ _ _ E1.out a0 a1 P0 P1 (Grew.refl w)).mono ?_
      rintro e w1 ⟨rfl, g1⟩
      go_wp2_with fail
      refine (do_is _ _ _ _ _ E2.out a0 a1 P0 P1 g1).mono ?_
      rintro e w2 ⟨rfl, g2⟩
      go_wp2_with fail
      refine (do_is _ _ _ _ _ E1.out a0 a1 P0 P1 g2).mono ?_
      rintro e w3 ⟨rfl, g3⟩
      go_wp2_with fail
      refine (do_is _ _ _ _ _ E3.out P0 P1 a0 a1 g3).mono ?_
      rintro e w4 ⟨rfl, g4⟩
      go_wp2_with fail
      refine (do_is _ _ _ _ _ (high_l a) a0 a1 (by decide) (by decide) g4).mono ?_
      rintro e w5 ⟨rfl, g5⟩
      go_wp2_with fail
      refine (do_is _ _ _ _ _ (high_r a a0 a1) (by decide) (by decide) a0 a1 g5).mono ?_
      rintro e w6 ⟨rfl, g6⟩
      go_wp2_with fail
      refine (heads_c g6).mono ?_
      rintro e w8 ⟨rfl, g8⟩
      go_wp2_with fail
      go_ret
      exact ⟨rfl, g8⟩
set_option maxRecDepth 100000 in
theorem lifted (os : Os) (started : os.Started) (H : Type) (enc : TypeId × Value → H) :
    ReturnsInHanded {} Try.checked os 8 .any (Rows.aluHighSpec.pre6 enc Try.prog Try.f8 Rows.aluHighRow.domain false) (Rows.aluHighSpec.post enc Try.prog Try.f8 false true false false) := by
  refine returnsInHanded_of_change (C := Try.checked) own started (by kernel_rfl) Try.func8
    (ChangeSpec.witness6 (enc := enc) (C := Try.checked) false ⟨#[], #[.int .u64 0, .int .i64 0], []⟩ 8 (by kernel_rfl) (by kernel_rfl) (by kernel_rfl) (by kernel_rfl)) ?_
  intro W base args ds gs before hval0 hW _ _
  have hval : ∀ (j : Nat) t v, Try.f8.params[j]? = some t → args[j]? = some v → Value.okWide Try.prog W .any base t v := hval0
  have hW' := hW
  obtain ⟨p, q, hA0, hV, rfl, hfz, hnd⟩ := hW
  have hA : DataW.TrodAll enc Try.prog W 0 (fun _ => true) true Try.f8.params.toList args.toList ds p := hA0
  rw [Try.params8] at hA hval
  obtain ⟨v0, vs0, d0, ds0, p0, q0, hargs, rfl, rfl, h0, r'0⟩ := trodAll_cons hA
  obtain ⟨v1, vs1, d1, ds1, p1, q1, rfl, rfl, rfl, h1, r'1⟩ := trodAll_cons r'0
  obtain ⟨rfl, rfl, rfl⟩ := trodAll_nil r'1
  obtain rfl : args = #[v0, v1] := by cases args; simp_all
  obtain ⟨a0, rfl, rfl, rfl, w0⟩ := open_int Try.underlying24 (hval 0 24 v0 rfl rfl) h0
  obtain ⟨a1, rfl, rfl, rfl, w1⟩ := open_int Try.underlying3 (hval 1 3 v1 rfl rfl) h1
  refine (walk a0 (wf_u64 w0) a1 (wf_i64 w1) W).mono fun e W' ⟨he, hb⟩ => ?_
  subst he
  exact ⟨_, rfl, law_post hW' rfl rfl laid (by kernel_rfl) rfl Try.underlying4 hb⟩

theorem over : Rows.aluHighRow.holds Try.pinned (OpenSpec.ofChange Rows.aluHighSpec) :=
  OpenClaim.holds_of_wide 8 Try.f8 rfl rfl rfl rfl rfl rfl rfl ⟨rfl, rfl, rfl, rfl, rfl⟩ rfl rfl rfl rfl rfl (by kernel_rfl) Try.func8 (by kernel_rfl)
    (of_decide_eq_true (by kernel_rfl)) (by unfold Func.isWrapper; first | (rw [if_pos (by decide +kernel)]; kernel_rfl) | (rw [if_neg (by decide +kernel)]; exact ⟨rfl, rfl⟩))
    (fun os started H enc _ => lifted os started H enc)

theorem proved : Rows.AluHighSaid := over
#print axioms proved
end Go.Proofs.Ytgekmhcekkmdhaa.aluHigh
