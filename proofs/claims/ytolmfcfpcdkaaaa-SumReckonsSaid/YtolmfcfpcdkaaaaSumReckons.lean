/-
  The statement that says what checksums are, and where they are put. For every bytes, numbers. Conditions: none.
-/
import Derived.Test.YtolmfcfpcdkaaaaRows
import Derived.Test.YtolmfcfpcdkaaaaSmC
import Derived.Test.YtolmfcfpcdkaaaaLaw
import Derived.Test.YtolmfcfpcdkaaaaClass
import Derived.Deep.QuietTactic
import Derived.BigQuiet
import Derived.Deep.DeepCutAuto
set_option maxRecDepth 4000
set_option linter.unusedVariables false
set_option linter.unusedSimpArgs false
namespace Go.Proofs.Ytolmfcfpcdkaaaa.sumReckons
open Go.ChangeShapes Go.WideShapes Go.ChangeAt Go.RowKit

theorem walk_far (a : Option Addr) (n c : Nat) (t s d p : Int) (W : World) (hn : (70000 : Int) < (n : Nat)) :
    Calls Try.prog 3 #[.slice a n c, .int .i64 t, .int .u32 s, .int .u32 d, .int .i64 p] W fun e w' => e = .returned (.bool true) ∧ Below W.heap.size W w' := by
  go_enter Try.func3, Try.ntmps3
  go_wp2_with fail
  refine (heads_c (Grew.refl _)).mono ?_
  rintro e w1 ⟨rfl, g1⟩
  go_wp2_with fail
  go_ret
  exact ⟨rfl, g1⟩
set_option maxHeartbeats 1000000 in
theorem walk_near (a : Option Addr) (n c : Nat) (xs : List Int) (t s d p : Int) (ht : -9223372036854775808 ≤ t ∧ t ≤ 9223372036854775807) (hs : 0 ≤ s ∧ s < 4294967296) (hd : 0 ≤ d ∧ d < 4294967296) (hp : -9223372036854775808 ≤ p ∧ p ≤ 9223372036854775807) (W : World) (hb : Buf W (.slice a n c) xs) (hn : (n : Int) ≤ 70000) :
    Calls Try.prog 3 #[.slice a n c, .int .i64 t, .int .u32 s, .int .u32 d, .int .i64 p] W fun e w' => e = .returned (.bool true) ∧ Below W.heap.size W w' := by
  have hl : xs.length ≤ 140737488355328 := by have := hb.lenEq; omega
  have H1 : ∀ w, Grew W w → Calls Try.prog 7 #[.slice a n c] w fun e w' => e = .returned (.int .i64 (sumV xs)) ∧ Grew w w' := fun w g => sum_c w (hb.grew g) hl
  have H2 : ∀ w, Grew W w → Calls Try.prog 8 #[.slice a n c] w fun e w' => e = .returned (.int .i64 (sumV xs)) ∧ Grew w w' := fun w g => refSum_c w (hb.grew g) hl
  have H3 : ∀ w, Grew W w → Calls Try.prog 9 #[.slice a n c] w fun e w' => e = .returned (.bool (decide (sumV xs = 0))) ∧ Grew w w' := fun w g => right_c w (hb.grew g) hl
  have H4 : ∀ w, Grew W w → Calls Try.prog 10 #[.slice a n c] w fun e w' => e = .returned (.bool (decide (sumV xs = 0))) ∧ Grew w w' := fun w g => refRight_c w (hb.grew g) hl
  have H5 : ∀ w, Grew W w → Calls Try.prog 12 #[.slice a n c, .int .i64 t] w fun e w' => ∃ u, e = .returned u ∧ Hid (Buf w' u (patchV xs t)) ∧ Grew w w' := fun w g => (patch_c t ht.1 ht.2 w (hb.grew g) hl).mono fun _ _ ⟨u, he, hr, hg⟩ => ⟨u, he, Lib.hid (hr.buf (patch_ok hb.ok t)), hg⟩
  have H6 : ∀ w, Grew W w → Calls Try.prog 13 #[.slice a n c, .int .i64 t] w fun e w' => ∃ u, e = .returned u ∧ Hid (Buf w' u (patchV xs t)) ∧ Grew w w' := fun w g => (refPatch_c t ht.1 ht.2 w (hb.grew g) hl).mono fun _ _ ⟨u, he, hr, hg⟩ => ⟨u, he, Lib.hid (hr.buf (patch_ok hb.ok t)), hg⟩
  have H7 : ∀ w, Calls Try.prog 14 #[.int .u32 s, .int .u32 d, .int .i64 p, .int .i64 t] w fun e w' => ∃ u, e = .returned u ∧ Hid (Buf w' u (pseudoV s d p t)) ∧ Grew w w' := fun w => (pseudo_c s d p t hs hd hp ht w).mono fun _ _ ⟨u, he, _, hr, hg⟩ => ⟨u, he, Lib.hid hr, hg⟩
  have H8 : ∀ w, Calls Try.prog 15 #[.int .u32 s, .int .u32 d, .int .i64 p, .int .i64 t] w fun e w' => ∃ u, e = .returned u ∧ Hid (Buf w' u (pseudoV s d p t)) ∧ Grew w w' := fun w => (refPseudo_c s d p t hs hd hp ht w).mono fun _ _ ⟨u, he, _, hr, hg⟩ => ⟨u, he, Lib.hid hr, hg⟩
  generalize sumV xs = S at *
  generalize decide (S = 0) = R at *
  generalize patchV xs t = ps at *
  generalize pseudoV s d p t = qs at *
  replace H1 := Lib.hid H1
  replace H2 := Lib.hid H2
  replace H3 := Lib.hid H3
  replace H4 := Lib.hid H4
  replace H5 := Lib.hid H5
  replace H6 := Lib.hid H6
  replace H7 := Lib.hid H7
  replace H8 := Lib.hid H8
  have hR : (R == R) = true := by cases R <;> rfl
  clear hb hl
  go_enter Try.func3, Try.ntmps3
  go_wp2_with fail
  refine (H1.out _ (Grew.refl _)).mono ?_
  rintro e w1 ⟨rfl, g1⟩
  go_wp2_with fail
  refine (H2.out _ g1).mono ?_
  rintro e w2 ⟨rfl, g2⟩
  have k2 := g1.trans g2
  go_wp2_with fail
  refine (H3.out _ k2).mono ?_
  rintro e w3 ⟨rfl, g3⟩
  have k3 := k2.trans g3
  go_wp2_with fail
  refine (H4.out _ k3).mono ?_
  rintro e w4 ⟨rfl, g4⟩
  have k4 := k3.trans g4
  go_wp2_with fail
  refine (H5.out _ k4).mono ?_
  rintro e w5 ⟨u5, rfl, b5, g5⟩
  have k5 := k4.trans g5
  go_wp2_with fail
  refine (H6.out _ k5).mono ?_
  rintro e w6 ⟨u6, rfl, b6, g6⟩
  have k6 := k5.trans g6
  go_wp2_with fail
  refine (same_c _ (b5.out.grew g6).bytes b6.out.bytes).mono ?_
  rintro e w7 ⟨rfl, h7⟩
  obtain rfl := h7.symm
  go_wp2_with fail
  refine (H7.out _).mono ?_
  rintro e w8 ⟨u8, rfl, b8, g8⟩
  go_wp2_with fail
  refine (H8.out _).mono ?_
  rintro e w9 ⟨u9, rfl, b9, g9⟩
  go_wp2_with fail
  refine (same_c _ (b8.out.grew g9).bytes b9.out.bytes).mono ?_
  rintro e w10 ⟨rfl, h10⟩
  obtain rfl := h10.symm
  go_wp2_with fail
  refine (heads_c ((k6.trans g8).trans g9)).mono ?_
  rintro e w11 ⟨rfl, g11⟩
  go_wp2_with fail
  go_ret
  exact ⟨rfl, g11⟩
theorem walk (v : Value) (xs : List Int) (t : Int) (ht : -9223372036854775808 ≤ t ∧ t ≤ 9223372036854775807) (s : Int) (hs : 0 ≤ s ∧ s < 4294967296) (d : Int) (hd : 0 ≤ d ∧ d < 4294967296) (p : Int) (hp : -9223372036854775808 ≤ p ∧ p ≤ 9223372036854775807) (W : World) (hb : Buf W v xs) :
    Calls Try.prog 3 #[v, .int .i64 t, .int .u32 s, .int .u32 d, .int .i64 p] W fun e w' => e = .returned (.bool true) ∧ Below W.heap.size W w' := by
  obtain ⟨a, c, rfl, _, _⟩ := hb.shape
  by_cases h : (70000 : Int) < (xs.length : Nat)
  · exact walk_far a _ c t s d p W h
  · exact walk_near a _ c xs t s d p ht hs hd hp W hb (by omega)
set_option maxRecDepth 100000 in
theorem lifted (os : Os) (started : os.Started) (H : Type) (enc : TypeId × Value → H) :
    ReturnsInHanded {} Try.checked os 3 .any (Rows.sumReckonsSpec.pre6 enc Try.prog Try.f3 Rows.sumReckonsRow.domain false) (Rows.sumReckonsSpec.post enc Try.prog Try.f3 false true false false) := by
  refine returnsInHanded_of_change (C := Try.checked) own started (by kernel_rfl) Try.func3
    (ChangeSpec.witness6 (enc := enc) (C := Try.checked) false ⟨#[], #[.slice none 0 0, .int .i64 0, .int .u32 0, .int .u32 0, .int .i64 0], []⟩ 8 (by kernel_rfl) (by kernel_rfl) (by kernel_rfl) (by kernel_rfl)) ?_
  intro W base args ds gs before hval0 hW _ _
  have hval : ∀ (j : Nat) t v, Try.f3.params[j]? = some t → args[j]? = some v → Value.okWide Try.prog W .any base t v := hval0
  have hW' := hW
  obtain ⟨p, q, hA0, hV, rfl, hfz, hnd⟩ := hW
  have hA : DataW.TrodAll enc Try.prog W 0 (fun _ => true) true Try.f3.params.toList args.toList ds p := hA0
  rw [Try.params3] at hA hval
  obtain ⟨v0, vs0, d0, ds0, p0, q0, hargs, rfl, rfl, h0, r'0⟩ := trodAll_cons hA
  obtain ⟨v1, vs1, d1, ds1, p1, q1, rfl, rfl, rfl, h1, r'1⟩ := trodAll_cons r'0
  obtain ⟨v2, vs2, d2, ds2, p2, q2, rfl, rfl, rfl, h2, r'2⟩ := trodAll_cons r'1
  obtain ⟨v3, vs3, d3, ds3, p3, q3, rfl, rfl, rfl, h3, r'3⟩ := trodAll_cons r'2
  obtain ⟨v4, vs4, d4, ds4, p4, q4, rfl, rfl, rfl, h4, r'4⟩ := trodAll_cons r'3
  obtain ⟨rfl, rfl, rfl⟩ := trodAll_nil r'4
  obtain rfl : args = #[v0, v1, v2, v3, v4] := by cases args; simp_all
  obtain ⟨x0, k0⟩ := open_buf Try.underlying22 Try.underlying5 (by kernel_rfl) (hval 0 22 v0 rfl rfl) h0
  obtain ⟨a1, rfl, rfl, rfl, w1⟩ := open_int Try.underlying3 (hval 1 3 v1 rfl rfl) h1
  obtain ⟨a2, rfl, rfl, rfl, w2⟩ := open_int Try.underlying23 (hval 2 23 v2 rfl rfl) h2
  obtain ⟨a3, rfl, rfl, rfl, w3⟩ := open_int Try.underlying23 (hval 3 23 v3 rfl rfl) h3
  obtain ⟨a4, rfl, rfl, rfl, w4⟩ := open_int Try.underlying3 (hval 4 3 v4 rfl rfl) h4
  refine (walk v0 x0 a1 (wf_i64 w1) a2 (wf_u32 w2) a3 (wf_u32 w3) a4 (wf_i64 w4) W k0).mono fun e W' ⟨he, hb⟩ => ?_
  subst he
  exact ⟨_, rfl, law_post hW' rfl rfl laid (by kernel_rfl) rfl Try.underlying4 hb⟩

theorem over : Rows.sumReckonsRow.holds Try.pinned (OpenSpec.ofChange Rows.sumReckonsSpec) :=
  OpenClaim.holds_of_wide 3 Try.f3 rfl rfl rfl rfl rfl rfl rfl ⟨rfl, rfl, rfl, rfl, rfl⟩ rfl rfl rfl rfl rfl (by kernel_rfl) Try.func3 (by kernel_rfl)
    (of_decide_eq_true (by kernel_rfl)) (by unfold Func.isWrapper; first | (rw [if_pos (by decide +kernel)]; kernel_rfl) | (rw [if_neg (by decide +kernel)]; exact ⟨rfl, rfl⟩))
    (fun os started H enc _ => lifted os started H enc)

theorem proved : Rows.SumReckonsSaid := over
#print axioms proved
end Go.Proofs.Ytolmfcfpcdkaaaa.sumReckons
