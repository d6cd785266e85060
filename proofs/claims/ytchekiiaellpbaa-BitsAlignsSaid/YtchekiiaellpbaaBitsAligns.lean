/-
  The statement about Align: sums and differences of multiples are multiples; what is a multiple of eight is one of four, two and one. For every x, y, size. Conditions: none.
-/
import Derived.Test.YtchekiiaellpbaaRows
import Derived.Test.YtchekiiaellpbaaBitsH
import Derived.Test.YtchekiiaellpbaaLaw
namespace Go.Proofs.Ytchekiiaellpbaa.bitsAligns
open Go.ChangeShapes Go.WideShapes Go.ChangeAt Go.RowKit

theorem al1 (x : Int) : alignV x 1 = true := by simp [alignV]
theorem al3 (x : Int) : alignV x 3 = false := by simp [alignV]
theorem al0 (x : Int) : alignV x 0 = false := by simp [alignV]
theorem al84 (x : Int) (h : alignV x 8 = true) : alignV x 4 = true ∧ alignV x 2 = true := by
  simp [alignV] at h ⊢; omega
theorem alsz {x s : Int} (h : alignV x s = true) : (s = 1 ∨ s = 2 ∨ s = 4 ∨ s = 8) ∧ x % s = 0 := by
  simpa [alignV] using h
theorem al_add {x y s : Int} (hx : alignV x s = true) (hy : alignV y s = true) : alignV (IntKind.u64.wrap (x + y)) s = true := by
  obtain ⟨h1, h2⟩ := alsz hx
  obtain ⟨_, h3⟩ := alsz hy
  rw [wrap_u64]
  rcases h1 with rfl | rfl | rfl | rfl <;> simp [alignV] <;> omega
theorem al_sub {x y s : Int} (hx : alignV x s = true) (hy : alignV y s = true) : alignV (IntKind.u64.wrap (x - y)) s = true := by
  obtain ⟨h1, h2⟩ := alsz hx
  obtain ⟨_, h3⟩ := alsz hy
  rw [wrap_u64]
  rcases h1 with rfl | rfl | rfl | rfl <;> simp [alignV] <;> omega
theorem al_one {x s : Int} (hx : alignV x s = true) (hs : ¬ s = 1) : alignV (IntKind.u64.wrap (x + 1)) s = false := by
  obtain ⟨h1, h2⟩ := alsz hx
  rw [wrap_u64]
  rcases h1 with rfl | rfl | rfl | rfl <;> simp [alignV] <;> omega
theorem wrap_lt (n : Int) : 0 ≤ IntKind.u64.wrap n ∧ IntKind.u64.wrap n < 18446744073709551616 := by rw [wrap_u64]; omega
theorem align_u (x n : Int) (hx : 0 ≤ x ∧ x < 18446744073709551616) (w : World) :
    Calls Try.prog 8 #[.int .u64 x, .int .i64 n] w fun e w' => e = .returned (.bool (alignV x n)) ∧ w' = w := align_c x n hx.1 hx.2 w

theorem walk (x : Int) (hx : 0 ≤ x ∧ x < 18446744073709551616) (y : Int) (hy : 0 ≤ y ∧ y < 18446744073709551616) (s : Int) (_ : -9223372036854775808 ≤ s ∧ s ≤ 9223372036854775807) (w : World) :
    Calls Try.prog 3 #[.int .u64 x, .int .u64 y, .int .i64 s] w fun e w' => e = .returned (.bool true) ∧ Below w.heap.size w w' := by
  have h1 := al1 x
  have h3 := al3 x
  have h0 := al0 x
  cases h8 : alignV x 8
  case' true => obtain ⟨h4, h2⟩ := al84 x h8
  all_goals cases hs : alignV x s
  case' false.true => cases ht : alignV y s
  case' true.true => cases ht : alignV y s
  case' false.true.true =>
    have ha := al_add hs ht
    have hb := al_sub hs ht
    by_cases he : s = 1
    case' pos => subst he
    case' neg =>
      have hc := al_one hs he
      have hd : (s == 1) = false := by simp [he]
  case' true.true.true =>
    have ha := al_add hs ht
    have hb := al_sub hs ht
    by_cases he : s = 1
    case' pos => subst he
    case' neg =>
      have hc := al_one hs he
      have hd : (s == 1) = false := by simp [he]
  all_goals
    go_enter Try.func3, Try.ntmps3
    go_wp2_with (first
      | (go_at_call 8; refine (align_u _ _ (by first | assumption | exact wrap_lt _) _).mono ?_; rintro e w' ⟨rfl, rfl⟩)
      | (go_at_call 9; refine (heads_c _).mono ?_; rintro e w1 ⟨rfl, hbl⟩))
    go_ret
    exact ⟨rfl, hbl⟩

set_option maxRecDepth 100000 in
theorem lifted (os : Os) (started : os.Started) (H : Type) (enc : TypeId × Value → H) :
    ReturnsInHanded {} Try.checked os 3 .any (Rows.bitsAlignsSpec.pre6 enc Try.prog Try.f3 Rows.bitsAlignsRow.domain false) (Rows.bitsAlignsSpec.post enc Try.prog Try.f3 false true false false) := by
  refine returnsInHanded_of_change (C := Try.checked) own started (by kernel_rfl) Try.func3
    (ChangeSpec.witness6 (enc := enc) (C := Try.checked) false ⟨#[], #[.int .u64 0, .int .u64 0, .int .i64 0], []⟩ 8 (by kernel_rfl) (by kernel_rfl) (by kernel_rfl) (by kernel_rfl)) ?_
  intro W base args ds gs before hval0 hW _ _
  have hval : ∀ (j : Nat) t v, Try.f3.params[j]? = some t → args[j]? = some v → Value.okWide Try.prog W .any base t v := hval0
  have hW' := hW
  obtain ⟨p, q, hA0, hV, rfl, hfz, hnd⟩ := hW
  have hA : DataW.TrodAll enc Try.prog W 0 (fun _ => true) true Try.f3.params.toList args.toList ds p := hA0
  rw [Try.params3] at hA hval
  obtain ⟨v0, vs0, d0, ds0, p0, q0, hargs, rfl, rfl, h0, r'0⟩ := trodAll_cons hA
  obtain ⟨v1, vs1, d1, ds1, p1, q1, rfl, rfl, rfl, h1, r'1⟩ := trodAll_cons r'0
  obtain ⟨v2, vs2, d2, ds2, p2, q2, rfl, rfl, rfl, h2, r'2⟩ := trodAll_cons r'1
  obtain ⟨rfl, rfl, rfl⟩ := trodAll_nil r'2
  obtain rfl : args = #[v0, v1, v2] := by cases args; simp_all
  obtain ⟨a0, rfl, rfl, rfl, w0⟩ := open_int Try.underlying22 (hval 0 22 v0 rfl rfl) h0
  obtain ⟨a1, rfl, rfl, rfl, w1⟩ := open_int Try.underlying22 (hval 1 22 v1 rfl rfl) h1
  obtain ⟨a2, rfl, rfl, rfl, w2⟩ := open_int Try.underlying3 (hval 2 3 v2 rfl rfl) h2
  refine (walk a0 (wf_u64 w0) a1 (wf_u64 w1) a2 (wf_i64 w2) W).mono fun e W' ⟨he, hb⟩ => ?_
  subst he
  exact ⟨_, rfl, law_post hW' rfl rfl laid (by kernel_rfl) rfl Try.underlying4 hb⟩

theorem over : Rows.bitsAlignsRow.holds Try.pinned (OpenSpec.ofChange Rows.bitsAlignsSpec) :=
  OpenClaim.holds_of_wide 3 Try.f3 rfl rfl rfl rfl rfl rfl rfl ⟨rfl, rfl, rfl, rfl, rfl⟩ rfl rfl rfl rfl rfl (by kernel_rfl) Try.func3 (by kernel_rfl)
    (of_decide_eq_true (by kernel_rfl)) (by unfold Func.isWrapper; first | (rw [if_pos (by decide +kernel)]; kernel_rfl) | (rw [if_neg (by decide +kernel)]; exact ⟨rfl, rfl⟩))
    (fun os started H enc _ => lifted os started H enc)

theorem proved : Rows.BitsAlignsSaid := over
#print axioms proved
end Go.Proofs.Ytchekiiaellpbaa.bitsAligns
