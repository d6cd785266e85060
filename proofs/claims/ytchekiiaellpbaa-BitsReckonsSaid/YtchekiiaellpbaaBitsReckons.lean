/-
  The statement that package bits reckons as the document does: Field, Sext, Put, Get, Align. For every numbers and bytes. Conditions: none.
-/
import Derived.Test.YtchekiiaellpbaaRows
import Derived.Test.YtchekiiaellpbaaBitsH
import Derived.Test.YtchekiiaellpbaaLaw
namespace Go.Proofs.Ytchekiiaellpbaa.bitsReckons
open Go.ChangeShapes Go.WideShapes Go.ChangeAt Go.RowKit

theorem bytes_later {w w' : World} {v : Value} {xs : List Int} (h : BytesIn w v xs) (hb : Below w.heap.size w w') : BytesIn w' v xs := by
  rcases h with h | ⟨b, off, c, rfl, h⟩
  · exact .inl h
  · exact .inr ⟨b, off, c, rfl, fun i hi => by rw [hb.cell (by exact block_lt_of_cell (h i hi))]; exact h i hi⟩

set_option maxHeartbeats 1000000 in
theorem walk (x : Int) (hx : 0 ≤ x ∧ x < 18446744073709551616) (a : Int) (_ : -9223372036854775808 ≤ a ∧ a ≤ 9223372036854775807) (b : Int) (_ : -9223372036854775808 ≤ b ∧ b ≤ 9223372036854775807) (big : Bool)
    (l : Value) (xs : List Int) (w : World) (hr : BytesIn w l xs) (hb : AreBytes xs) (hl : xs.length ≤ maxLen) :
    Calls Try.prog 4 #[.int .u64 x, .int .i64 a, .int .i64 b, .bool big, l] w fun e w' => e = .returned (.bool true) ∧ Below w.heap.size w w' := by
  have HR := Lib.hid hr
  have hl' : xs.length ≤ 9223372036854775807 := by unfold maxLen at hl; omega
  have hbool : (alignV x a == alignV x a) = true := by simp
  clear hr hl
  go_enter Try.func4, Try.ntmps4
  go_wp2_with fail
  refine (field_c _ _ _ hx.1 hx.2 _).mono ?_
  rintro e w1 ⟨rfl, n1, rfl⟩
  go_wp2_with fail
  refine (refField_c _ _ _ hx.1 hx.2 _).mono ?_
  rintro e w1 ⟨rfl, h1⟩
  obtain rfl := h1.symm
  go_wp2_with fail
  refine (sext_c _ _ hx.1 hx.2 _).mono ?_
  rintro e w1 ⟨rfl, h1⟩
  obtain rfl := h1.symm
  go_wp2_with fail
  refine (refSext_c _ _ hx.1 hx.2 _).mono ?_
  rintro e w1 ⟨rfl, h1⟩
  obtain rfl := h1.symm
  go_wp2_with fail
  refine (put_new _ _ _ hx.1 hx.2 _).mono ?_
  rintro e w1 ⟨v, rfl, hn⟩
  have HN := Lib.hid hn
  clear hn
  go_wp2_with fail
  refine (refPut_new _ _ _ hx.1 hx.2 _).mono ?_
  rintro e w2 ⟨u, rfl, hm⟩
  have HM := Lib.hid hm
  clear hm
  have hb2 : Below w.heap.size w w2 := ((below_drewN (Below.refl _ w) n1).trans HN.out.below).trans (HM.out.below.mono HN.out.below.size)
  have HB := Lib.hid hb2
  clear hb2
  go_wp2_with fail
  refine (same_c _ (HN.out.later HM.out.below).bytes HM.out.bytes).mono ?_
  rintro e w3 ⟨rfl, h1⟩
  obtain rfl := h1.symm
  go_wp2_with fail
  refine (get_c _ hb hl' _ (bytes_later HR.out HB.out)).mono ?_
  rintro e w3 ⟨rfl, h1⟩
  obtain rfl := h1.symm
  go_wp2_with fail
  refine (refGet_c _ hb hl' _ (bytes_later HR.out HB.out)).mono ?_
  rintro e w3 ⟨rfl, h1⟩
  obtain rfl := h1.symm
  go_wp2_with fail
  refine (align_c _ _ hx.1 hx.2 _).mono ?_
  rintro e w3 ⟨rfl, h1⟩
  obtain rfl := h1.symm
  go_wp2_with fail
  refine (refAlign_c _ _ hx.1 hx.2 _).mono ?_
  rintro e w3 ⟨rfl, h1⟩
  obtain rfl := h1.symm
  go_wp2_with fail
  refine (heads_c _).mono ?_
  rintro e w3 ⟨rfl, hbl⟩
  go_wp2_with fail
  go_ret
  exact ⟨rfl, HB.out.trans (hbl.mono HB.out.size)⟩
set_option maxRecDepth 100000 in
theorem lifted (os : Os) (started : os.Started) (H : Type) (enc : TypeId × Value → H) :
    ReturnsInHanded {} Try.checked os 4 .any (Rows.bitsReckonsSpec.pre6 enc Try.prog Try.f4 Rows.bitsReckonsRow.domain false) (Rows.bitsReckonsSpec.post enc Try.prog Try.f4 false true false false) := by
  refine returnsInHanded_of_change (C := Try.checked) own started (by kernel_rfl) Try.func4
    (ChangeSpec.witness6 (enc := enc) (C := Try.checked) false ⟨#[], #[.int .u64 0, .int .i64 0, .int .i64 0, .bool false, .slice none 0 0], []⟩ 8 (by kernel_rfl) (by kernel_rfl) (by kernel_rfl) (by kernel_rfl)) ?_
  intro W base args ds gs before hval0 hW _ _
  have hval : ∀ (j : Nat) t v, Try.f4.params[j]? = some t → args[j]? = some v → Value.okWide Try.prog W .any base t v := hval0
  have hW' := hW
  obtain ⟨p, q, hA0, hV, rfl, hfz, hnd⟩ := hW
  have hA : DataW.TrodAll enc Try.prog W 0 (fun _ => true) true Try.f4.params.toList args.toList ds p := hA0
  rw [Try.params4] at hA hval
  obtain ⟨v0, vs0, d0, ds0, p0, q0, hargs, rfl, rfl, h0, r'0⟩ := trodAll_cons hA
  obtain ⟨v1, vs1, d1, ds1, p1, q1, rfl, rfl, rfl, h1, r'1⟩ := trodAll_cons r'0
  obtain ⟨v2, vs2, d2, ds2, p2, q2, rfl, rfl, rfl, h2, r'2⟩ := trodAll_cons r'1
  obtain ⟨v3, vs3, d3, ds3, p3, q3, rfl, rfl, rfl, h3, r'3⟩ := trodAll_cons r'2
  obtain ⟨v4, vs4, d4, ds4, p4, q4, rfl, rfl, rfl, h4, r'4⟩ := trodAll_cons r'3
  obtain ⟨rfl, rfl, rfl⟩ := trodAll_nil r'4
  obtain rfl : args = #[v0, v1, v2, v3, v4] := by cases args; simp_all
  obtain ⟨a0, rfl, rfl, rfl, w0⟩ := open_int Try.underlying22 (hval 0 22 v0 rfl rfl) h0
  obtain ⟨a1, rfl, rfl, rfl, w1⟩ := open_int Try.underlying3 (hval 1 3 v1 rfl rfl) h1
  obtain ⟨a2, rfl, rfl, rfl, w2⟩ := open_int Try.underlying3 (hval 2 3 v2 rfl rfl) h2
  obtain ⟨a3, rfl, rfl, rfl⟩ := open_bool Try.underlying4 (hval 3 4 v3 rfl rfl) h3
  obtain ⟨x4, r4, b4, l4⟩ := open_bytes Try.underlying26 Try.underlying5 (by kernel_rfl) (hval 4 26 v4 rfl rfl) h4
  refine (walk a0 (wf_u64 w0) a1 (wf_i64 w1) a2 (wf_i64 w2) a3 v4 x4 W r4 b4 l4).mono fun e W' ⟨he, hb⟩ => ?_
  subst he
  exact ⟨_, rfl, law_post hW' rfl rfl laid (by kernel_rfl) rfl Try.underlying4 hb⟩

theorem over : Rows.bitsReckonsRow.holds Try.pinned (OpenSpec.ofChange Rows.bitsReckonsSpec) :=
  OpenClaim.holds_of_wide 4 Try.f4 rfl rfl rfl rfl rfl rfl rfl ⟨rfl, rfl, rfl, rfl, rfl⟩ rfl rfl rfl rfl rfl (by kernel_rfl) Try.func4 (by kernel_rfl)
    (of_decide_eq_true (by kernel_rfl)) (by unfold Func.isWrapper; first | (rw [if_pos (by decide +kernel)]; kernel_rfl) | (rw [if_neg (by decide +kernel)]; exact ⟨rfl, rfl⟩))
    (fun os started H enc _ => lifted os started H enc)

theorem proved : Rows.BitsReckonsSaid := over
#print axioms proved
end Go.Proofs.Ytchekiiaellpbaa.bitsReckons
