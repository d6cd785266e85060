/-
  The statement about Field: two fields side by side are the number. For every x and every place of the cut. Conditions: none.
-/
import Derived.Test.YtchekiiaellpbaaRows
import Derived.Test.YtchekiiaellpbaaBitsH
import Derived.Test.YtchekiiaellpbaaLaw
namespace Go.Proofs.Ytchekiiaellpbaa.bitsJoins
open Go.ChangeShapes Go.WideShapes Go.ChangeAt Go.RowKit

theorem join (x c : Int) (hx : 0 ≤ x ∧ x < 18446744073709551616) (h1 : 1 ≤ c) (h2 : c ≤ 63) :
    bits .or .u64 (IntKind.u64.wrap (fieldV x 63 c * 2 ^ c.toNat)) (fieldV x (c - 1) 0) = x := by
  rw [fieldV_high x c hx h1 h2, fieldV_low x c h1 h2]
  have hp := pow_pos' c.toNat
  have hd := Int.mul_ediv_add_emod x (2 ^ c.toNat)
  rw [Int.mul_comm] at hd
  have h0 := Int.emod_nonneg x (Int.ne_of_gt hp)
  have hm := Int.emod_lt_of_pos x hp
  have hq := (div_pow_lt x c.toNat hx.1 hx.2).1
  have hq2 := Int.mul_nonneg hq (Int.le_of_lt hp)
  rw [IntWalk.u64_in _ (by omega)]
  have e := or_add (x % 2 ^ c.toNat) (x / 2 ^ c.toNat) c.toNat h0 hm hq (by omega)
  rw [u64_or _ _ h0 (by omega) hq2 (by omega)] at e
  rw [u64_or _ _ hq2 (by omega) h0 (by omega), Nat.or_comm, e]
  omega

theorem walk (x : Int) (hx : 0 ≤ x ∧ x < 18446744073709551616) (c : Int) (hc : -9223372036854775808 ≤ c ∧ c ≤ 9223372036854775807) (w : World) :
    Calls Try.prog 7 #[.int .u64 x, .int .i64 c] w fun e w' => e = .returned (.bool true) ∧ Below w.heap.size w w' := by
  by_cases h : 1 ≤ c ∧ c ≤ 63
  · obtain ⟨h1, h2⟩ := h
    have m1 : IntKind.i64.wrap (c - 1) = c - 1 := IntWalk.i64_in _ (by omega)
    have hw := fieldV_whole x hx
    have hj := join x c hx h1 h2
    go_enter Try.func7, Try.ntmps7
    go_wp2_with (first
      | (go_at_call 10; refine (field_c _ _ _ hx.1 hx.2 _).mono ?_; rintro e w' ⟨rfl, n, rfl⟩)
      | (go_at_call 9; refine (heads_c _).mono ?_; rintro e w1 ⟨rfl, hbl⟩))
    go_ret
    exact ⟨rfl, (below_drewN (Below.refl _ w) _).trans hbl⟩
  · by_cases h1 : c < 1
    · go_enter Try.func7, Try.ntmps7
      go_wp2_with (go_at_call 9; refine (heads_c _).mono ?_; rintro e w1 ⟨rfl, hbl⟩)
      go_ret
      exact ⟨rfl, hbl⟩
    · have h2 : 63 < c := by omega
      go_enter Try.func7, Try.ntmps7
      go_wp2_with (go_at_call 9; refine (heads_c _).mono ?_; rintro e w1 ⟨rfl, hbl⟩)
      go_ret
      exact ⟨rfl, hbl⟩
set_option maxRecDepth 100000 in
theorem lifted (os : Os) (started : os.Started) (H : Type) (enc : TypeId × Value → H) :
    ReturnsInHanded {} Try.checked os 7 .any (Rows.bitsJoinsSpec.pre6 enc Try.prog Try.f7 Rows.bitsJoinsRow.domain false) (Rows.bitsJoinsSpec.post enc Try.prog Try.f7 false true false false) := by
  refine returnsInHanded_of_change (C := Try.checked) own started (by kernel_rfl) Try.func7
    (ChangeSpec.witness6 (enc := enc) (C := Try.checked) false ⟨#[], #[.int .u64 0, .int .i64 0], []⟩ 8 (by kernel_rfl) (by kernel_rfl) (by kernel_rfl) (by kernel_rfl)) ?_
  intro W base args ds gs before hval0 hW _ _
  have hval : ∀ (j : Nat) t v, Try.f7.params[j]? = some t → args[j]? = some v → Value.okWide Try.prog W .any base t v := hval0
  have hW' := hW
  obtain ⟨p, q, hA0, hV, rfl, hfz, hnd⟩ := hW
  have hA : DataW.TrodAll enc Try.prog W 0 (fun _ => true) true Try.f7.params.toList args.toList ds p := hA0
  rw [Try.params7] at hA hval
  obtain ⟨v0, vs0, d0, ds0, p0, q0, hargs, rfl, rfl, h0, r'0⟩ := trodAll_cons hA
  obtain ⟨v1, vs1, d1, ds1, p1, q1, rfl, rfl, rfl, h1, r'1⟩ := trodAll_cons r'0
  obtain ⟨rfl, rfl, rfl⟩ := trodAll_nil r'1
  obtain rfl : args = #[v0, v1] := by cases args; simp_all
  obtain ⟨a0, rfl, rfl, rfl, w0⟩ := open_int Try.underlying22 (hval 0 22 v0 rfl rfl) h0
  obtain ⟨a1, rfl, rfl, rfl, w1⟩ := open_int Try.underlying3 (hval 1 3 v1 rfl rfl) h1
  refine (walk a0 (wf_u64 w0) a1 (wf_i64 w1) W).mono fun e W' ⟨he, hb⟩ => ?_
  subst he
  exact ⟨_, rfl, law_post hW' rfl rfl laid (by kernel_rfl) rfl Try.underlying4 hb⟩

theorem over : Rows.bitsJoinsRow.holds Try.pinned (OpenSpec.ofChange Rows.bitsJoinsSpec) :=
  OpenClaim.holds_of_wide 7 Try.f7 rfl rfl rfl rfl rfl rfl rfl ⟨rfl, rfl, rfl, rfl, rfl⟩ rfl rfl rfl rfl rfl (by kernel_rfl) Try.func7 (by kernel_rfl)
    (of_decide_eq_true (by kernel_rfl)) (by unfold Func.isWrapper; first | (rw [if_pos (by decide +kernel)]; kernel_rfl) | (rw [if_neg (by decide +kernel)]; exact ⟨rfl, rfl⟩))
    (fun os started H enc _ => lifted os started H enc)

theorem proved : Rows.BitsJoinsSaid := over
#print axioms proved
end Go.Proofs.Ytchekiiaellpbaa.bitsJoins
