/-
  The statement about sums of words: they do not look at the upper bits, and are signed words. For every f and numbers. Conditions: none.
-/
import Derived.Test.YtgekmhcekkmdhaaAluH
import Derived.Test.YtgekmhcekkmdhaaAluM
import Derived.Test.YtgekmhcekkmdhaaLaw
set_option linter.unusedVariables false
set_option linter.unusedSimpArgs false
namespace Go.Proofs.Ytgekmhcekkmdhaa.aluWords
open Go.ChangeShapes Go.WideShapes Go.ChangeAt Go.RowKit

set_option maxHeartbeats 2000000 in
theorem walk (f : Int) (_hf : -9223372036854775808 ≤ f ∧ f ≤ 9223372036854775807) (a : Int) (ha : 0 ≤ a ∧ a < 18446744073709551616) (b : Int) (hb : 0 ≤ b ∧ b < 18446744073709551616)
    (p : Int) (hp : 0 ≤ p ∧ p < 18446744073709551616) (q : Int) (hq : 0 ≤ q ∧ q < 18446744073709551616) (w : World) :
    Calls Try.prog 10 #[.int .i64 f, .int .u64 a, .int .u64 b, .int .u64 p, .int .u64 q] w fun e w' => e = .returned (.bool true) ∧ Below w.heap.size w w' := by
  have e1 : ∃ x, doPV f true (a % 4294967296) (b % 4294967296) = x := ⟨_, rfl⟩
  obtain ⟨x, e1⟩ := e1
  have hr := word_range f (a % 4294967296) (b % 4294967296)
  rw [e1] at hr
  have l1 := or_low (a % 4294967296) p (by omega) (by omega) hp.1 hp.2
  have l2 := or_low (b % 4294967296) q (by omega) (by omega) hq.1 hq.2
  have m1 := or_lt (a % 4294967296) (IntKind.u64.wrap (p * 4294967296)) (by omega) (by omega) (wrap_lt _).1 (wrap_lt _).2
  have m2 := or_lt (b % 4294967296) (IntKind.u64.wrap (q * 4294967296)) (by omega) (by omega) (wrap_lt _).1 (wrap_lt _).2
  have e2 : doPV f true (bits .or .u64 (a % 4294967296) (IntKind.u64.wrap (p * 4294967296))) (bits .or .u64 (b % 4294967296) (IntKind.u64.wrap (q * 4294967296))) = x := by
    rw [← e1]
    exact word_low f _ _ _ _ (by rw [l1, Int.emod_emod]) (by rw [l2, Int.emod_emod])
  have a0 : 0 ≤ a % 4294967296 := by omega
  have a1 : a % 4294967296 < 18446744073709551616 := by omega
  have b0 : 0 ≤ b % 4294967296 := by omega
  have b1 : b % 4294967296 < 18446744073709551616 := by omega
  have E1 := Lib.hid e1
  have E2 := Lib.hid e2
  have M1 := Lib.hid m1
  have M2 := Lib.hid m2
  clear e1 e2 l1 l2 m1 m2
  rcases hr with hr | hr
  · go_enter Try.func10, Try.ntmps10
    go_wp2_with fail
    refine (do_is _ _ _ _ _ E1.out a0 a1 b0 b1 (Grew.refl w)).mono ?_
    rintro e w1 ⟨rfl, g1⟩
    go_wp2_with fail
    refine (do_is _ _ _ _ _ E2.out M1.out.1 M1.out.2 M2.out.1 M2.out.2 g1).mono ?_
    rintro e w2 ⟨rfl, g2⟩
    go_wp2_with fail
    refine (heads_c g2).mono ?_
    rintro e w8 ⟨rfl, g8⟩
    go_wp2_with fail
    go_ret
    exact ⟨rfl, g8⟩
  · have hr2 : ¬ x < 2147483648 := by omega
    go_enter Try.func10, Try.ntmps10
    go_wp2_with fail
    refine (do_is _ _ _ _ _ E1.out a0 a1 b0 b1 (Grew.refl w)).mono ?_
    rintro e w1 ⟨rfl, g1⟩
    go_wp2_with fail
    refine (do_is _ _ _ _ _ E2.out M1.out.1 M1.out.2 M2.out.1 M2.out.2 g1).mono ?_
    rintro e w2 ⟨rfl, g2⟩
    go_wp2_with fail
    refine (heads_c g2).mono ?_
    rintro e w8 ⟨rfl, g8⟩
    go_wp2_with fail
    go_ret
    exact ⟨rfl, g8⟩
set_option maxRecDepth 100000 in
theorem lifted (os : Os) (started : os.Started) (H : Type) (enc : TypeId × Value → H) :
    ReturnsInHanded {} Try.checked os 10 .any (Rows.aluWordsSpec.pre6 enc Try.prog Try.f10 Rows.aluWordsRow.domain false) (Rows.aluWordsSpec.post enc Try.prog Try.f10 false true false false) := by
  refine returnsInHanded_of_change (C := Try.checked) own started (by kernel_rfl) Try.func10
    (ChangeSpec.witness6 (enc := enc) (C := Try.checked) false ⟨#[], #[.int .i64 0, .int .u64 0, .int .u64 0, .int .u64 0, .int .u64 0], []⟩ 8 (by kernel_rfl) (by kernel_rfl) (by kernel_rfl) (by kernel_rfl)) ?_
  intro W base args ds gs before hval0 hW _ _
  have hval : ∀ (j : Nat) t v, Try.f10.params[j]? = some t → args[j]? = some v → Value.okWide Try.prog W .any base t v := hval0
  have hW' := hW
  obtain ⟨p, q, hA0, hV, rfl, hfz, hnd⟩ := hW
  have hA : DataW.TrodAll enc Try.prog W 0 (fun _ => true) true Try.f10.params.toList args.toList ds p := hA0
  rw [Try.params10] at hA hval
  obtain ⟨v0, vs0, d0, ds0, p0, q0, hargs, rfl, rfl, h0, r'0⟩ := trodAll_cons hA
  obtain ⟨v1, vs1, d1, ds1, p1, q1, rfl, rfl, rfl, h1, r'1⟩ := trodAll_cons r'0
  obtain ⟨v2, vs2, d2, ds2, p2, q2, rfl, rfl, rfl, h2, r'2⟩ := trodAll_cons r'1
  obtain ⟨v3, vs3, d3, ds3, p3, q3, rfl, rfl, rfl, h3, r'3⟩ := trodAll_cons r'2
  obtain ⟨v4, vs4, d4, ds4, p4, q4, rfl, rfl, rfl, h4, r'4⟩ := trodAll_cons r'3
  obtain ⟨rfl, rfl, rfl⟩ := trodAll_nil r'4
  obtain rfl : args = #[v0, v1, v2, v3, v4] := by cases args; simp_all
  obtain ⟨a0, rfl, rfl, rfl, w0⟩ := open_int Try.underlying3 (hval 0 3 v0 rfl rfl) h0
  obtain ⟨a1, rfl, rfl, rfl, w1⟩ := open_int Try.underlying24 (hval 1 24 v1 rfl rfl) h1
  obtain ⟨a2, rfl, rfl, rfl, w2⟩ := open_int Try.underlying24 (hval 2 24 v2 rfl rfl) h2
  obtain ⟨a3, rfl, rfl, rfl, w3⟩ := open_int Try.underlying24 (hval 3 24 v3 rfl rfl) h3
  obtain ⟨a4, rfl, rfl, rfl, w4⟩ := open_int Try.underlying24 (hval 4 24 v4 rfl rfl) h4
  refine (walk a0 (wf_i64 w0) a1 (wf_u64 w1) a2 (wf_u64 w2) a3 (wf_u64 w3) a4 (wf_u64 w4) W).mono fun e W' ⟨he, hb⟩ => ?_
  subst he
  exact ⟨_, rfl, law_post hW' rfl rfl laid (by kernel_rfl) rfl Try.underlying4 hb⟩

theorem over : Rows.aluWordsRow.holds Try.pinned (OpenSpec.ofChange Rows.aluWordsSpec) :=
  OpenClaim.holds_of_wide 10 Try.f10 rfl rfl rfl rfl rfl rfl rfl ⟨rfl, rfl, rfl, rfl, rfl⟩ rfl rfl rfl rfl rfl (by kernel_rfl) Try.func10 (by kernel_rfl)
    (of_decide_eq_true (by kernel_rfl)) (by unfold Func.isWrapper; first | (rw [if_pos (by decide +kernel)]; kernel_rfl) | (rw [if_neg (by decide +kernel)]; exact ⟨rfl, rfl⟩))
    (fun os started H enc _ => lifted os started H enc)

theorem proved : Rows.AluWordsSaid := over
#print axioms proved
end Go.Proofs.Ytgekmhcekkmdhaa.aluWords
