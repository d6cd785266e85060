/-
  The statement about Sext: an extended number keeps its lowest bits; all above are its sign. For every x and n. Conditions: none.
-/
import Derived.Test.YtchekiiaellpbaaRows
import Derived.Test.YtchekiiaellpbaaBitsH
import Derived.Test.YtchekiiaellpbaaLaw
namespace Go.Proofs.Ytchekiiaellpbaa.bitsSigns
open Go.ChangeShapes Go.WideShapes Go.ChangeAt Go.RowKit

/-- The lowest n bits of the extended number are those of the number; above stand noughts or ones. -/
theorem sext_parts (x n : Int) (h1 : 1 ≤ n) (h2 : n ≤ 63) :
    sextV x n % 2 ^ n.toNat = x % 2 ^ n.toNat ∧ (sextV x n / 2 ^ (n.toNat - 1) = 0 ∨ sextV x n / 2 ^ (n.toNat - 1) = 2 ^ (65 - n.toNat) - 1) := by
  have hq := pow_pos' n.toNat
  have hr := pow_pos' (n.toNat - 1)
  have hm0 := Int.emod_nonneg x (Int.ne_of_gt hq)
  have hm1 := Int.emod_lt_of_pos x hq
  have hhalf : (2 : Int) ^ n.toNat = 2 * 2 ^ (n.toNat - 1) := by
    have := pow_split (m := 1) (n := n.toNat) (by omega)
    simpa using this
  have hsp : (18446744073709551616 : Int) = 2 ^ n.toNat * 2 ^ (64 - n.toNat) := by rw [← two64]; exact pow_split (by omega)
  have hsp2 : (18446744073709551616 : Int) = 2 ^ (n.toNat - 1) * 2 ^ (65 - n.toNat) := by
    rw [← two64, pow_split (m := n.toNat - 1) (n := 64) (by omega), show 64 - (n.toNat - 1) = 65 - n.toNat by omega]
  unfold sextV
  rw [if_neg (by omega), if_neg (by omega)]
  generalize hy : x % 2 ^ n.toNat = y at *
  by_cases hlt : y < 2 ^ (n.toNat - 1)
  · rw [if_pos hlt]
    exact ⟨Int.emod_eq_of_lt hm0 hm1, .inl (Int.ediv_eq_zero_of_lt hm0 hlt)⟩
  · rw [if_neg hlt]
    refine ⟨?_, .inr ?_⟩
    · rw [show y + (18446744073709551616 - 2 ^ n.toNat) = y + 2 ^ n.toNat * (2 ^ (64 - n.toNat) - 1) by rw [Int.mul_sub, ← hsp]; omega, Int.add_mul_emod_self_left]
      exact Int.emod_eq_of_lt hm0 hm1
    · rw [show y + (18446744073709551616 - 2 ^ n.toNat) = (y - 2 ^ (n.toNat - 1)) + 2 ^ (n.toNat - 1) * (2 ^ (65 - n.toNat) - 1) by rw [Int.mul_sub, ← hsp2]; omega, Int.add_mul_ediv_left _ _ (Int.ne_of_gt hr)]
      rw [Int.ediv_eq_zero_of_lt (by omega) (by omega)]
      omega
theorem sext_low (x n : Int) (h1 : 1 ≤ n) (h2 : n ≤ 63) : fieldV (sextV x n) (n - 1) 0 = fieldV x (n - 1) 0 := by
  rw [fieldV_low _ n h1 h2, fieldV_low _ n h1 h2, (sext_parts x n h1 h2).1]
theorem sext_again (x n : Int) (h1 : 1 ≤ n) (h2 : n ≤ 63) : sextV (sextV x n) n = sextV x n := by
  have h := (sext_parts x n h1 h2).1
  rw [sextV, if_neg (by omega), if_neg (by omega), h]
  conv => rhs; rw [sextV, if_neg (by omega), if_neg (by omega)]
theorem field_top (x n : Int) (hx : 0 ≤ x ∧ x < 18446744073709551616) (h1 : 1 ≤ n) (h2 : n ≤ 63) : fieldV x 63 (n - 1) = x / 2 ^ (n.toNat - 1) := by
  by_cases e : n = 1
  · subst e
    rw [show (1 : Int) - 1 = 0 by rfl, fieldV_whole x hx]
    simp
  · rw [fieldV_high x (n - 1) hx (by omega) (by omega), show (n - 1).toNat = n.toNat - 1 by omega]
theorem ones_top (n : Int) (h1 : 1 ≤ n) (h2 : n ≤ 63) : fieldV 18446744073709551615 63 (n - 1) = 2 ^ (65 - n.toNat) - 1 := by
  rw [field_top _ n (by omega) h1 h2]
  have hr := pow_pos' (n.toNat - 1)
  have hsp2 : (18446744073709551616 : Int) = 2 ^ (n.toNat - 1) * 2 ^ (65 - n.toNat) := by
    rw [← two64, pow_split (m := n.toNat - 1) (n := 64) (by omega), show 64 - (n.toNat - 1) = 65 - n.toNat by omega]
  rw [show (18446744073709551615 : Int) = (2 ^ (n.toNat - 1) - 1) + 2 ^ (n.toNat - 1) * (2 ^ (65 - n.toNat) - 1) by rw [Int.mul_sub, ← hsp2]; omega, Int.add_mul_ediv_left _ _ (Int.ne_of_gt hr)]
  rw [Int.ediv_eq_zero_of_lt (by omega) (by omega)]
  omega
theorem ones_ne (n : Int) (h1 : 1 ≤ n) (h2 : n ≤ 63) : (fieldV 18446744073709551615 63 (n - 1) == 0) = false := by
  rw [ones_top n h1 h2]
  have h := pow_le_pow' (m := 2) (n := 65 - n.toNat) (by omega)
  have h4 : (2 : Int) ^ 2 = 4 := by decide
  rw [beq_eq_false_iff_ne]
  omega
theorem sext_high (x n : Int) (hx : 0 ≤ x ∧ x < 18446744073709551616) (h1 : 1 ≤ n) (h2 : n ≤ 63) : fieldV (sextV x n) 63 (n - 1) = 0 ∨ fieldV (sextV x n) 63 (n - 1) = fieldV 18446744073709551615 63 (n - 1) := by
  rw [field_top _ n (sextV_lt x n hx.1 hx.2) h1 h2, ones_top n h1 h2]
  exact (sext_parts x n h1 h2).2

theorem walk (x : Int) (hx : 0 ≤ x ∧ x < 18446744073709551616) (n : Int) (hn : -9223372036854775808 ≤ n ∧ n ≤ 9223372036854775807) (w : World) :
    Calls Try.prog 6 #[.int .u64 x, .int .i64 n] w fun e w' => e = .returned (.bool true) ∧ Below w.heap.size w w' := by
  by_cases h : 1 ≤ n ∧ n ≤ 63
  · obtain ⟨h1, h2⟩ := h
    have m1 : IntKind.i64.wrap (n - 1) = n - 1 := IntWalk.i64_in _ (by omega)
    have hy := sextV_lt x n hx.1 hx.2
    have f1 := sext_low x n h1 h2
    have f2 := sext_again x n h1 h2
    have f3 := ones_ne n h1 h2
    have hM : (0 : Int) ≤ 18446744073709551615 ∧ (18446744073709551615 : Int) < 18446744073709551616 := by omega
    rcases sext_high x n hx h1 h2 with f4 | f4
    all_goals
      go_enter Try.func6, Try.ntmps6
      go_wp2_with (first
        | (go_at_call 10; refine (field_c _ _ _ (by first | exact hx.1 | exact hy.1 | exact hM.1) (by first | exact hx.2 | exact hy.2 | exact hM.2) _).mono ?_; rintro e w' ⟨rfl, n, rfl⟩)
        | (go_at_call 12; refine (sext_c _ _ (by first | exact hx.1 | exact hy.1) (by first | exact hx.2 | exact hy.2) _).mono ?_; rintro e w' ⟨rfl, rfl⟩)
        | (go_at_call 9; refine (heads_c _).mono ?_; rintro e w1 ⟨rfl, hbl⟩))
      go_ret
      exact ⟨rfl, (below_drewN (Below.refl _ _) _).trans hbl⟩
  · by_cases h1 : n < 1
    · go_enter Try.func6, Try.ntmps6
      go_wp2_with (go_at_call 9; refine (heads_c _).mono ?_; rintro e w1 ⟨rfl, hbl⟩)
      go_ret
      exact ⟨rfl, hbl⟩
    · have h2 : 63 < n := by omega
      go_enter Try.func6, Try.ntmps6
      go_wp2_with (go_at_call 9; refine (heads_c _).mono ?_; rintro e w1 ⟨rfl, hbl⟩)
      go_ret
      exact ⟨rfl, hbl⟩
set_option maxRecDepth 100000 in
theorem lifted (os : Os) (started : os.Started) (H : Type) (enc : TypeId × Value → H) :
    ReturnsInHanded {} Try.checked os 6 .any (Rows.bitsSignsSpec.pre6 enc Try.prog Try.f6 Rows.bitsSignsRow.domain false) (Rows.bitsSignsSpec.post enc Try.prog Try.f6 false true false false) := by
  refine returnsInHanded_of_change (C := Try.checked) own started (by kernel_rfl) Try.func6
    (ChangeSpec.witness6 (enc := enc) (C := Try.checked) false ⟨#[], #[.int .u64 0, .int .i64 0], []⟩ 8 (by kernel_rfl) (by kernel_rfl) (by kernel_rfl) (by kernel_rfl)) ?_
  intro W base args ds gs before hval0 hW _ _
  have hval : ∀ (j : Nat) t v, Try.f6.params[j]? = some t → args[j]? = some v → Value.okWide Try.prog W .any base t v := hval0
  have hW' := hW
  obtain ⟨p, q, hA0, hV, rfl, hfz, hnd⟩ := hW
  have hA : DataW.TrodAll enc Try.prog W 0 (fun _ => true) true Try.f6.params.toList args.toList ds p := hA0
  rw [Try.params6] at hA hval
  obtain ⟨v0, vs0, d0, ds0, p0, q0, hargs, rfl, rfl, h0, r'0⟩ := trodAll_cons hA
  obtain ⟨v1, vs1, d1, ds1, p1, q1, rfl, rfl, rfl, h1, r'1⟩ := trodAll_cons r'0
  obtain ⟨rfl, rfl, rfl⟩ := trodAll_nil r'1
  obtain rfl : args = #[v0, v1] := by cases args; simp_all
  obtain ⟨a0, rfl, rfl, rfl, w0⟩ := open_int Try.underlying22 (hval 0 22 v0 rfl rfl) h0
  obtain ⟨a1, rfl, rfl, rfl, w1⟩ := open_int Try.underlying3 (hval 1 3 v1 rfl rfl) h1
  refine (walk a0 (wf_u64 w0) a1 (wf_i64 w1) W).mono fun e W' ⟨he, hb⟩ => ?_
  subst he
  exact ⟨_, rfl, law_post hW' rfl rfl laid (by kernel_rfl) rfl Try.underlying4 hb⟩

theorem over : Rows.bitsSignsRow.holds Try.pinned (OpenSpec.ofChange Rows.bitsSignsSpec) :=
  OpenClaim.holds_of_wide 6 Try.f6 rfl rfl rfl rfl rfl rfl rfl ⟨rfl, rfl, rfl, rfl, rfl⟩ rfl rfl rfl rfl rfl (by kernel_rfl) Try.func6 (by kernel_rfl)
    (of_decide_eq_true (by kernel_rfl)) (by unfold Func.isWrapper; first | (rw [if_pos (by decide +kernel)]; kernel_rfl) | (rw [if_neg (by decide +kernel)]; exact ⟨rfl, rfl⟩))
    (fun os started H enc _ => lifted os started H enc)

theorem proved : Rows.BitsSignsSaid := over
#print axioms proved
end Go.Proofs.Ytchekiiaellpbaa.bitsSigns
