/-
  The statement that says which memory is made. For every number. Conditions: none.
-/
import Derived.Test.YtjefbnnocdaloaaRows
import Derived.Test.YtjefbnnocdaloaaRamH
import Derived.Test.YtjefbnnocdaloaaLaw
import Derived.Deep.QuietTactic
import Derived.BigQuiet
import Derived.Deep.DeepCutAuto
set_option linter.unusedVariables false
set_option linter.unusedSimpArgs false
namespace Go.Proofs.Ytjefbnnocdaloaa.ramMakes
open Go.ChangeShapes Go.WideShapes Go.ChangeAt Go.RowKit

theorem walk_with (n e : Int) (r s : Value) (xs : List Int) (W : World)
    (h1 : ∀ w, Grew W w → Calls Try.prog 21 #[.int .i64 n] w fun e' w' => ∃ a m c, e' = .returned (.tuple #[.agg #[.slice a m c], .int .i64 e]) ∧ Hid (Buf w' (.slice a m c) xs) ∧ Grew w w')
    (h2 : ∀ w, Grew W w → Calls Try.prog 22 #[.int .i64 n] w fun e' w' => ∃ a m c, e' = .returned (.tuple #[.agg #[.slice a m c], .int .i64 e]) ∧ Hid (Buf w' (.slice a m c) xs) ∧ Grew w w') :
    Calls Try.prog 5 #[.int .i64 n] W fun e w' => e = .returned (.bool true) ∧ Below W.heap.size W w' := by
  have H1 := Lib.hid h1
  have H2 := Lib.hid h2
  clear h1 h2
  go_enter Try.func5, Try.ntmps5
  go_wp2_with fail
  refine (H1.out _ (Grew.refl W)).mono ?_
  rintro e w1 ⟨a, m, c, rfl, hb1, g1⟩
  go_upto_region 2 with fail
  have hA2 : Blk (w1.alloc (.cells #[.slice a m c] 24)) w1.heap.size #[.slice a m c] 24 := Blk.new w1 _ _ _ rfl
  have g2 : Grew W (w1.alloc (.cells #[.slice a m c] 24)) := g1.alloc _
  have hb2 := Lib.hid (takes_box hb1.out #[.slice a m c] 24)
  generalize (w1.alloc (.cells #[.slice a m c] 24)) = w2 at *
  generalize w1.heap.size = A at *
  go_wp2_with fail
  refine (H2.out _ g2).mono ?_
  rintro e w3 ⟨a', m', c', rfl, hb3, g3⟩
  have hA3 := hA2.grew g3
  go_upto_region 3 with fail
  have hB4 : Blk (w3.alloc (.cells #[.slice a' m' c'] 24)) w3.heap.size #[.slice a' m' c'] 24 := Blk.new w3 _ _ _ rfl
  have hA4 : Blk (w3.alloc (.cells #[.slice a' m' c'] 24)) A #[.slice a m c] 24 := hA3.alloc _
  have g4 : Grew W (w3.alloc (.cells #[.slice a' m' c'] 24)) := (g2.trans g3).alloc _
  have hb4 := Lib.hid (takes_box hb3.out #[.slice a' m' c'] 24)
  have hb24 := Lib.hid (takes_box (hb2.out.grew g3) #[.slice a' m' c'] 24)
  generalize (w3.alloc (.cells #[.slice a' m' c'] 24)) = w4 at *
  generalize w3.heap.size = B at *
  have cA := hA4.cell 0
  have cB := hB4.cell 0
  go_wp2_with fail
  refine (same_b _ hb24.out hb4.out rfl).mono ?_
  rintro e w5 ⟨rfl, g5⟩
  go_wp2_with fail
  refine (heads_c _).mono ?_
  rintro e w6 ⟨rfl, g6⟩
  go_wp2_with fail
  go_ret
  exact ⟨rfl, (g4.trans g5).trans g6⟩
theorem walk (n : Int) (hn : -9223372036854775808 ≤ n ∧ n ≤ 9223372036854775807) (W : World) :
    Calls Try.prog 5 #[.int .i64 n] W fun e w' => e = .returned (.bool true) ∧ Below W.heap.size W w' := by
  by_cases h : 1 ≤ n ∧ n ≤ 65536
  · obtain ⟨k, rfl⟩ := Int.eq_ofNat_of_zero_le (show 0 ≤ n by omega)
    refine walk_with k 0 undef undef (List.replicate k 0) W (fun w _ => ?_) (fun w _ => ?_)
    · refine (new_yes k (by omega) (by omega) w).mono ?_
      rintro e w' ⟨g, rfl, hr, hg⟩
      exact ⟨_, _, _, rfl, hr.buf (AreBytes.zeros k), hg⟩
    · refine (refNew_yes k (by omega) (by omega) w).mono ?_
      rintro e w' ⟨g, rfl, hr, hg⟩
      exact ⟨_, _, _, rfl, hr.buf (AreBytes.zeros k), hg⟩
  · refine walk_with n 2 undef undef [] W (fun w _ => ?_) (fun w _ => ?_)
    · refine (new_no n hn.1 hn.2 (by omega) w).mono ?_
      rintro e w' ⟨rfl, hg⟩
      exact ⟨_, _, _, rfl, Buf.nil _, hg⟩
    · refine (refNew_no n hn.1 hn.2 (by omega) w).mono ?_
      rintro e w' ⟨rfl, hg⟩
      exact ⟨_, _, _, rfl, Buf.nil _, hg⟩
set_option maxRecDepth 100000 in
theorem lifted (os : Os) (started : os.Started) (H : Type) (enc : TypeId × Value → H) :
    ReturnsInHanded {} Try.checked os 5 .any (Rows.ramMakesSpec.pre6 enc Try.prog Try.f5 Rows.ramMakesRow.domain false) (Rows.ramMakesSpec.post enc Try.prog Try.f5 false true false false) := by
  refine returnsInHanded_of_change (C := Try.checked) own started (by kernel_rfl) Try.func5
    (ChangeSpec.witness6 (enc := enc) (C := Try.checked) false ⟨#[], #[.int .i64 0], []⟩ 8 (by kernel_rfl) (by kernel_rfl) (by kernel_rfl) (by kernel_rfl)) ?_
  intro W base args ds gs before hval0 hW _ _
  have hval : ∀ (j : Nat) t v, Try.f5.params[j]? = some t → args[j]? = some v → Value.okWide Try.prog W .any base t v := hval0
  have hW' := hW
  obtain ⟨p, q, hA0, hV, rfl, hfz, hnd⟩ := hW
  have hA : DataW.TrodAll enc Try.prog W 0 (fun _ => true) true Try.f5.params.toList args.toList ds p := hA0
  rw [Try.params5] at hA hval
  obtain ⟨v0, vs0, d0, ds0, p0, q0, hargs, rfl, rfl, h0, r'0⟩ := trodAll_cons hA
  obtain ⟨rfl, rfl, rfl⟩ := trodAll_nil r'0
  obtain rfl : args = #[v0] := by cases args; simp_all
  obtain ⟨a0, rfl, rfl, rfl, w0⟩ := open_int Try.underlying3 (hval 0 3 v0 rfl rfl) h0
  refine (walk a0 (wf_i64 w0) W).mono fun e W' ⟨he, hb⟩ => ?_
  subst he
  exact ⟨_, rfl, law_post hW' rfl rfl laid (by kernel_rfl) rfl Try.underlying4 hb⟩

theorem over : Rows.ramMakesRow.holds Try.pinned (OpenSpec.ofChange Rows.ramMakesSpec) :=
  OpenClaim.holds_of_wide 5 Try.f5 rfl rfl rfl rfl rfl rfl rfl ⟨rfl, rfl, rfl, rfl, rfl⟩ rfl rfl rfl rfl rfl (by kernel_rfl) Try.func5 (by kernel_rfl)
    (of_decide_eq_true (by kernel_rfl)) (by unfold Func.isWrapper; first | (rw [if_pos (by decide +kernel)]; kernel_rfl) | (rw [if_neg (by decide +kernel)]; exact ⟨rfl, rfl⟩))
    (fun os started H enc _ => lifted os started H enc)

theorem proved : Rows.RamMakesSaid := over
#print axioms proved
end Go.Proofs.Ytjefbnnocdaloaa.ramMakes
