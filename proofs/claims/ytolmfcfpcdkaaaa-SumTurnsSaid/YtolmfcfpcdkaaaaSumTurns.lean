/-
  The statement that a checksum does not matter in which order pairs stand, and that two texts behind one another, the first one even, add up. For every two texts. Conditions: none.
-/
import Derived.Test.YtolmfcfpcdkaaaaRows
import Derived.Test.YtolmfcfpcdkaaaaSmC
import Derived.Test.YtolmfcfpcdkaaaaLaw
import Derived.Test.YtolmfcfpcdkaaaaClass
import Derived.Deep.QuietTactic
import Derived.BigQuiet
import Derived.Deep.DeepCutAuto
set_option maxRecDepth 4000
set_option linter.unusedVariables false
set_option linter.unusedSimpArgs false
namespace Go.Proofs.Ytolmfcfpcdkaaaa.sumTurns
open Go.ChangeShapes Go.WideShapes Go.ChangeAt Go.RowKit

theorem out (a b : Option Addr) (n m c d : Nat) (W : World) (h : ((n : Int) % 2 != 0) = true ∨ (((n : Int) % 2 != 0) = false ∧ ((m : Int) % 2 != 0) = true) ∨ (((n : Int) % 2 != 0) = false ∧ ((m : Int) % 2 != 0) = false ∧ (30000 : Int) < (n : Nat)) ∨ (((n : Int) % 2 != 0) = false ∧ ((m : Int) % 2 != 0) = false ∧ (n : Int) ≤ 30000 ∧ (30000 : Int) < (m : Nat))) :
    Calls Try.prog 5 #[.slice a n c, .slice b m d] W fun e w' => e = .returned (.bool true) ∧ Below W.heap.size W w' := by
  rcases h with h1 | ⟨h1, h2⟩ | ⟨h1, h2, h3⟩ | ⟨h1, h2, h3, h4⟩
  all_goals
    go_enter Try.func5, Try.ntmps5
    go_wp2_with fail
    refine (heads_c (Grew.refl _)).mono ?_
    rintro e w1 ⟨rfl, g1⟩
    go_wp2_with fail
    go_ret
    exact ⟨rfl, g1⟩
set_option maxHeartbeats 1000000 in
theorem walk_near (a b : Option Addr) (n m c d : Nat) (xs ys : List Int) (W : World) (ha : Buf W (.slice a n c) xs) (hb : Buf W (.slice b m d) ys) (h1 : ((n : Int) % 2 != 0) = false) (h2 : ((m : Int) % 2 != 0) = false) (h3 : (n : Int) ≤ 30000) (h4 : (m : Int) ≤ 30000) :
    Calls Try.prog 5 #[.slice a n c, .slice b m d] W fun e w' => e = .returned (.bool true) ∧ Below W.heap.size W w' := by
  have e1 := ha.lenEq.1
  have e2 := hb.lenEq.1
  have v1 : xs.length % 2 = 0 := by have : (n : Int) % 2 = 0 := by simpa using h1
                                    omega
  have v2 : ys.length % 2 = 0 := by have : (m : Int) % 2 = 0 := by simpa using h2
                                    omega
  have hsum := sumV_append ha.ok hb.ok v1
  have hswap := sumV_swap v1 v2
  have hx := sumV_lt xs
  have hy := sumV_lt ys
  have H1 : ∀ w v, Row w W.heap.size v (xs ++ ys) → Calls Try.prog 7 #[v] w fun e w' => e = .returned (.int .i64 (sumV (xs ++ ys))) ∧ Grew w w' := fun w v r => sum_c w (r.buf (ha.ok.append hb.ok)) (by rw [List.length_append]; omega)
  have H2 : ∀ w v, Row w W.heap.size v (ys ++ xs) → Calls Try.prog 7 #[v] w fun e w' => e = .returned (.int .i64 (sumV (xs ++ ys))) ∧ Grew w w' := fun w v r => by
    rw [hswap]; exact sum_c w (r.buf (hb.ok.append ha.ok)) (by rw [List.length_append]; omega)
  have H3 : ∀ w, Grew W w → Calls Try.prog 7 #[.slice a n c] w fun e w' => e = .returned (.int .i64 (sumV xs)) ∧ Grew w w' := fun w g => sum_c w (ha.grew g) (by omega)
  have H4 : ∀ w, Grew W w → Calls Try.prog 7 #[.slice b m d] w fun e w' => e = .returned (.int .i64 (sumV ys)) ∧ Grew w w' := fun w g => sum_c w (hb.grew g) (by omega)
  have L1 := Lib.hid (show ([] : List Int).length + xs.length ≤ 140737488355328 by simp; omega)
  have L2 := Lib.hid (show ([] ++ xs : List Int).length + ys.length ≤ 140737488355328 by simp; omega)
  have L3 := Lib.hid (show ([] : List Int).length + ys.length ≤ 140737488355328 by simp; omega)
  have L4 := Lib.hid (show ([] ++ ys : List Int).length + xs.length ≤ 140737488355328 by simp; omega)
  have hbd := sumV_lt (xs ++ ys)
  generalize sumV (xs ++ ys) = S at *
  generalize sumV xs = X at *
  generalize sumV ys = Y at *
  replace H1 := Lib.hid H1
  replace H2 := Lib.hid H2
  replace H3 := Lib.hid H3
  replace H4 := Lib.hid H4
  have HA := Lib.hid ha
  have HB := Lib.hid hb
  have HS := Lib.hid hsum
  clear ha hb hsum hswap e1 e2 v1 v2
  go_enter Try.func5, Try.ntmps5
  go_upto_region 3 with fail
  go_upto_region 4 with (first
    | (refine wpList_append_b rfl (.tmp 29) (.tmp 30) rfl ((Grew.refl W).alloc _) (Row.lit W W.heap.size (Nat.le_refl _) #[] [] rfl (Nat.zero_le _) _ rfl 0 rfl) (HA.out.grew ((Grew.refl W).alloc _)) (by rfl) (by rfl) L1.out ?_; intro v1 w1 R1 g1 x1; clear x1)
    | (refine wpList_append_b rfl (.tmp 31) (.tmp 32) rfl g1 R1.out (HB.out.grew g1) (by rfl) (by rfl) L2.out ?_; intro v2 w2 R2 g2 x2; clear x2)
    | (go_at_call 7; refine (H1.out _ _ R2.out).mono ?_; rintro e w3 ⟨rfl, g3⟩))
  have k3 := g2.trans g3
  go_upto_region 5 with (first
    | (refine wpList_append_b rfl (.tmp 35) (.tmp 36) rfl (k3.alloc _) (Row.lit w3 W.heap.size k3.size #[] [] rfl (Nat.zero_le _) _ rfl 0 rfl) (HB.out.grew (k3.alloc _)) (by rfl) (by rfl) L3.out ?_; intro v4 w4 R4 g4 x4; clear x4)
    | (refine wpList_append_b rfl (.tmp 37) (.tmp 38) rfl g4 R4.out (HA.out.grew g4) (by rfl) (by rfl) L4.out ?_; intro v5 w5 R5 g5 x5; clear x5)
    | (go_at_call 7; refine (H2.out _ _ R5.out).mono ?_; rintro e w6 ⟨rfl, g6⟩))
  have k6 := g5.trans g6
  go_wp2_with fail
  refine (H3.out _ k6).mono ?_
  rintro e w7 ⟨rfl, g7⟩
  have k7 := k6.trans g7
  go_wp2_with fail
  refine (H4.out _ k7).mono ?_
  rintro e w8 ⟨rfl, g8⟩
  have k8 := k7.trans g8
  by_cases hz : 65535 < (65535 - X) + (65535 - Y)
  · obtain rfl : S = 65535 - ((65535 - X) + (65535 - Y) - 65535) := by rw [HS.out, if_pos hz]
    go_wp2_with fail
    refine (heads_c k8).mono ?_
    rintro e w9 ⟨rfl, g9⟩
    go_wp2_with fail
    go_ret
    exact ⟨rfl, g9⟩
  · obtain rfl : S = 65535 - ((65535 - X) + (65535 - Y)) := by rw [HS.out, if_neg hz]
    go_wp2_with fail
    refine (heads_c k8).mono ?_
    rintro e w9 ⟨rfl, g9⟩
    go_wp2_with fail
    go_ret
    exact ⟨rfl, g9⟩
theorem walk (v : Value) (xs : List Int) (u : Value) (ys : List Int) (W : World) (ha : Buf W v xs) (hb : Buf W u ys) :
    Calls Try.prog 5 #[v, u] W fun e w' => e = .returned (.bool true) ∧ Below W.heap.size W w' := by
  obtain ⟨a, c, rfl, _, _⟩ := ha.shape
  obtain ⟨b, d, rfl, _, _⟩ := hb.shape
  cases h1 : ((xs.length : Int) % 2 != 0)
  · cases h2 : ((ys.length : Int) % 2 != 0)
    · by_cases h3 : (xs.length : Int) ≤ 30000
      · by_cases h4 : (ys.length : Int) ≤ 30000
        · exact walk_near a b _ _ c d xs ys W ha hb h1 h2 h3 h4
        · exact out a b _ _ c d W (.inr (.inr (.inr ⟨h1, h2, h3, by omega⟩)))
      · exact out a b _ _ c d W (.inr (.inr (.inl ⟨h1, h2, by omega⟩)))
    · exact out a b _ _ c d W (.inr (.inl ⟨h1, h2⟩))
  · exact out a b _ _ c d W (.inl h1)
set_option maxRecDepth 100000 in
theorem lifted (os : Os) (started : os.Started) (H : Type) (enc : TypeId × Value → H) :
    ReturnsInHanded {} Try.checked os 5 .any (Rows.sumTurnsSpec.pre6 enc Try.prog Try.f5 Rows.sumTurnsRow.domain false) (Rows.sumTurnsSpec.post enc Try.prog Try.f5 false true false false) := by
  refine returnsInHanded_of_change (C := Try.checked) own started (by kernel_rfl) Try.func5
    (ChangeSpec.witness6 (enc := enc) (C := Try.checked) false ⟨#[], #[.slice none 0 0, .slice none 0 0], []⟩ 8 (by kernel_rfl) (by kernel_rfl) (by kernel_rfl) (by kernel_rfl)) ?_
  intro W base args ds gs before hval0 hW _ _
  have hval : ∀ (j : Nat) t v, Try.f5.params[j]? = some t → args[j]? = some v → Value.okWide Try.prog W .any base t v := hval0
  have hW' := hW
  obtain ⟨p, q, hA0, hV, rfl, hfz, hnd⟩ := hW
  have hA : DataW.TrodAll enc Try.prog W 0 (fun _ => true) true Try.f5.params.toList args.toList ds p := hA0
  rw [Try.params5] at hA hval
  obtain ⟨v0, vs0, d0, ds0, p0, q0, hargs, rfl, rfl, h0, r'0⟩ := trodAll_cons hA
  obtain ⟨v1, vs1, d1, ds1, p1, q1, rfl, rfl, rfl, h1, r'1⟩ := trodAll_cons r'0
  obtain ⟨rfl, rfl, rfl⟩ := trodAll_nil r'1
  obtain rfl : args = #[v0, v1] := by cases args; simp_all
  obtain ⟨x0, k0⟩ := open_buf Try.underlying22 Try.underlying5 (by kernel_rfl) (hval 0 22 v0 rfl rfl) h0
  obtain ⟨x1, k1⟩ := open_buf Try.underlying22 Try.underlying5 (by kernel_rfl) (hval 1 22 v1 rfl rfl) h1
  refine (walk v0 x0 v1 x1 W k0 k1).mono fun e W' ⟨he, hb⟩ => ?_
  subst he
  exact ⟨_, rfl, law_post hW' rfl rfl laid (by kernel_rfl) rfl Try.underlying4 hb⟩

theorem over : Rows.sumTurnsRow.holds Try.pinned (OpenSpec.ofChange Rows.sumTurnsSpec) :=
  OpenClaim.holds_of_wide 5 Try.f5 rfl rfl rfl rfl rfl rfl rfl ⟨rfl, rfl, rfl, rfl, rfl⟩ rfl rfl rfl rfl rfl (by kernel_rfl) Try.func5 (by kernel_rfl)
    (of_decide_eq_true (by kernel_rfl)) (by unfold Func.isWrapper; first | (rw [if_pos (by decide +kernel)]; kernel_rfl) | (rw [if_neg (by decide +kernel)]; exact ⟨rfl, rfl⟩))
    (fun os started H enc _ => lifted os started H enc)

theorem proved : Rows.SumTurnsSaid := over
#print axioms proved
end Go.Proofs.Ytolmfcfpcdkaaaa.sumTurns
