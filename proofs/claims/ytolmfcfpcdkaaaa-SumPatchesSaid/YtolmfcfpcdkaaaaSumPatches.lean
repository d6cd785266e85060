/-
  The statement that what is patched is right, and nothing else is another. For every bytes, place. Conditions: none.
-/
import Derived.Test.YtolmfcfpcdkaaaaRows
import Derived.Test.YtolmfcfpcdkaaaaSmC
import Derived.Test.YtolmfcfpcdkaaaaLaw
import Derived.Test.YtolmfcfpcdkaaaaClass
import Derived.Deep.QuietTactic
import Derived.BigQuiet
import Derived.Deep.DeepCutAuto
set_option maxRecDepth 4000
set_option linter.unusedVariables false
set_option linter.unusedSimpArgs false
namespace Go.Proofs.Ytolmfcfpcdkaaaa.sumPatches
open Go.ChangeShapes Go.WideShapes Go.ChangeAt Go.RowKit

theorem out (a : Option Addr) (n c : Nat) (t : Int) (hn : n ≤ maxLen) (W : World) (h : (70000 : Int) < (n : Nat) ∨ ((n : Int) ≤ 70000 ∧ t < 0) ∨ ((n : Int) ≤ 70000 ∧ 0 ≤ t ∧ (t % 2 != 0) = true) ∨ ((n : Int) ≤ 70000 ∧ 0 ≤ t ∧ (t % 2 != 0) = false ∧ (n : Int) - 2 < t)) :
    Calls Try.prog 4 #[.slice a n c, .int .i64 t] W fun e w' => e = .returned (.bool true) ∧ Below W.heap.size W w' := by
  unfold maxLen at hn
  rcases h with h1 | ⟨h1, h2⟩ | ⟨h1, h2, h3⟩ | ⟨h1, h2, h3, h4⟩
  all_goals
    go_enter Try.func4, Try.ntmps4
    go_wp2_with fail
    refine (heads_c (Grew.refl _)).mono ?_
    rintro e w1 ⟨rfl, g1⟩
    go_wp2_with fail
    go_ret
    exact ⟨rfl, g1⟩
set_option maxHeartbeats 1000000 in
theorem walk_near (a : Option Addr) (n c : Nat) (xs : List Int) (t : Int) (ht : -9223372036854775808 ≤ t ∧ t ≤ 9223372036854775807) (W : World) (hb : Buf W (.slice a n c) xs) (h1 : (n : Int) ≤ 70000) (h2 : 0 ≤ t) (h3 : (t % 2 != 0) = false) (h4 : t ≤ (n : Int) - 2) :
    Calls Try.prog 4 #[.slice a n c, .int .i64 t] W fun e w' => e = .returned (.bool true) ∧ Below W.heap.size W w' := by
  have hl := hb.lenEq.1
  have hl2 : xs.length ≤ 140737488355328 := by omega
  have hpr : isPairV xs.length t = true := by
    unfold isPairV
    refine decide_eq_true ⟨h2, by simpa using h3, by omega⟩
  have hright := patch_right hb.ok t hpr
  have hget : ∀ k : Nat, ((k : Int) != t) = true → ((k : Int) != t + 1) = true → (patchV xs t).getD k 0 = xs.getD k 0 := fun k hk1 hk2 => by
    have hk1' : (k : Int) ≠ t := by simpa using hk1
    have hk2' : (k : Int) ≠ t + 1 := by simpa using hk2
    unfold patchV
    rw [if_pos hpr, putTwo_get _ _ (by omega), if_neg (by omega), if_neg (by omega)]
  have hpl := patch_len xs t
  have hpo := patch_ok hb.ok t
  have H5 : ∀ w, Grew W w → Calls Try.prog 12 #[.slice a n c, .int .i64 t] w fun e w' => ∃ u, e = .returned u ∧ Hid (Buf w' u (patchV xs t)) ∧ Grew w w' := fun w g => (patch_c t ht.1 ht.2 w (hb.grew g) hl2).mono fun _ _ ⟨u, he, hr, hg⟩ => ⟨u, he, Lib.hid (hr.buf hpo), hg⟩
  have H3 : ∀ w v, Buf w v (patchV xs t) → Calls Try.prog 9 #[v] w fun e w' => e = .returned (.bool true) ∧ Grew w w' := fun w v r => by
    have := right_c w r (by rw [hpl]; exact hl2)
    rwa [hright] at this
  generalize hps : patchV xs t = ps at *
  rw [← hl] at hpl
  have HPL := Lib.hid hpl
  have HG := Lib.hid hget
  have HB := Lib.hid hb
  have HL := Lib.hid hl
  replace H5 := Lib.hid H5
  replace H3 := Lib.hid H3
  clear hps hpl hget hb hl hl2 hpr hright hpo
  go_enter Try.func4, Try.ntmps4
  go_wp2_with fail
  refine (H5.out _ (Grew.refl _)).mono ?_
  rintro e w1 ⟨u, rfl, b1, g1⟩
  obtain ⟨p, q, rfl, hq, hat⟩ := b1.out.shape
  have HAT := Lib.hid hat
  clear hat
  rw [HPL.out]
  go_wp2_with fail
  refine (H3.out _ _ (by have := b1.out; rwa [HPL.out] at this)).mono ?_
  rintro e w2 ⟨rfl, g2⟩
  have k2 := g1.trans g2
  go_upto_region 7 with fail
  go_loopw [6] (fun i wr => ∃ k : Nat, k ≤ n ∧ i = .int .i64 k ∧ Grew w2 wr) (fun i _ => n - (intOf i).toNat)
  case atStart => exact ⟨0, Nat.zero_le _, rfl, Grew.refl _⟩
  case round =>
    obtain ⟨k, hk, rfl, g3⟩ := hrel
    by_cases hlt : k < n
    · have hlt' : (k : Int) < (n : Nat) := by omega
      cases e1 : ((k : Int) != t)
      · go_wp2_with fail
        go_quiet (fail)
        go_wp2_with fail
        go_roundw
        case rel => exact ⟨k + 1, by omega, by go_num, g3.drewN _⟩
        case measure => simp [intOf]; omega
      · cases e2 : ((k : Int) != t + 1)
        · go_wp2_with fail
          go_quiet (fail)
          go_wp2_with fail
          go_roundw
          case rel => exact ⟨k + 1, by omega, by go_num, g3.drewN _⟩
          case measure => simp [intOf]; omega
        · have hz : ps ≠ [] := by rintro rfl; have := HPL.out; simp at this; omega
          have hx : xs ≠ [] := by rintro rfl; have := HL.out; simp at this; omega
          obtain ⟨bp, op, rfl, hp⟩ := HAT.out hz
          obtain ⟨_, _, ea, _, hxa⟩ := HB.out.shape
          simp only [Value.slice.injEq] at ea
          obtain ⟨rfl, hxl, rfl⟩ := ea
          clear hxl
          obtain ⟨bx, ox, rfl, hxb⟩ := hxa hx
          clear hxa
          have c0 : wr.cell? ⟨bp, op + k, none⟩ = some (.int .u8 (xs.getD k 0)) := by
            rw [← HG.out k e1 e2]
            exact (hp.grew (g2.trans g3)) k (by rw [HPL.out]; exact hlt)
          have c1 : wr.cell? ⟨bx, ox + k, none⟩ = some (.int .u8 (xs.getD k 0)) := (hxb.grew (k2.trans g3)) k (by rw [← HL.out]; exact hlt)
          generalize xs.getD k 0 = X at *
          clear hp hxb
          go_wp2_with fail
          go_quiet (fail)
          go_wp2_with fail
          go_roundw
          case rel => exact ⟨k + 1, by omega, by go_num, g3.drewN _⟩
          case measure => simp [intOf]; omega
    · obtain rfl : k = n := by omega
      go_wp2_with fail
      refine (heads_c (k2.trans g3)).mono ?_
      rintro e w9 ⟨rfl, g9⟩
      go_wp2_with fail
      go_ret
      exact ⟨rfl, g9⟩
theorem walk (v : Value) (xs : List Int) (t : Int) (ht : -9223372036854775808 ≤ t ∧ t ≤ 9223372036854775807) (W : World) (hb : Buf W v xs) :
    Calls Try.prog 4 #[v, .int .i64 t] W fun e w' => e = .returned (.bool true) ∧ Below W.heap.size W w' := by
  obtain ⟨a, c, rfl, _, _⟩ := hb.shape
  by_cases h1 : (xs.length : Int) ≤ 70000
  · by_cases h2 : 0 ≤ t
    · cases h3 : (t % 2 != 0)
      · by_cases h4 : t ≤ (xs.length : Int) - 2
        · exact walk_near a _ c xs t ht W hb h1 h2 h3 h4
        · exact out a _ c t hb.len W (.inr (.inr (.inr ⟨h1, h2, h3, by omega⟩)))
      · exact out a _ c t hb.len W (.inr (.inr (.inl ⟨h1, h2, h3⟩)))
    · exact out a _ c t hb.len W (.inr (.inl ⟨h1, by omega⟩))
  · exact out a _ c t hb.len W (.inl (by omega))
set_option maxRecDepth 100000 in
theorem lifted (os : Os) (started : os.Started) (H : Type) (enc : TypeId × Value → H) :
    ReturnsInHanded {} Try.checked os 4 .any (Rows.sumPatchesSpec.pre6 enc Try.prog Try.f4 Rows.sumPatchesRow.domain false) (Rows.sumPatchesSpec.post enc Try.prog Try.f4 false true false false) := by
  refine returnsInHanded_of_change (C := Try.checked) own started (by kernel_rfl) Try.func4
    (ChangeSpec.witness6 (enc := enc) (C := Try.checked) false ⟨#[], #[.slice none 0 0, .int .i64 0], []⟩ 8 (by kernel_rfl) (by kernel_rfl) (by kernel_rfl) (by kernel_rfl)) ?_
  intro W base args ds gs before hval0 hW _ _
  have hval : ∀ (j : Nat) t v, Try.f4.params[j]? = some t → args[j]? = some v → Value.okWide Try.prog W .any base t v := hval0
  have hW' := hW
  obtain ⟨p, q, hA0, hV, rfl, hfz, hnd⟩ := hW
  have hA : DataW.TrodAll enc Try.prog W 0 (fun _ => true) true Try.f4.params.toList args.toList ds p := hA0
  rw [Try.params4] at hA hval
  obtain ⟨v0, vs0, d0, ds0, p0, q0, hargs, rfl, rfl, h0, r'0⟩ := trodAll_cons hA
  obtain ⟨v1, vs1, d1, ds1, p1, q1, rfl, rfl, rfl, h1, r'1⟩ := trodAll_cons r'0
  obtain ⟨rfl, rfl, rfl⟩ := trodAll_nil r'1
  obtain rfl : args = #[v0, v1] := by cases args; simp_all
  obtain ⟨x0, k0⟩ := open_buf Try.underlying22 Try.underlying5 (by kernel_rfl) (hval 0 22 v0 rfl rfl) h0
  obtain ⟨a1, rfl, rfl, rfl, w1⟩ := open_int Try.underlying3 (hval 1 3 v1 rfl rfl) h1
  refine (walk v0 x0 a1 (wf_i64 w1) W k0).mono fun e W' ⟨he, hb⟩ => ?_
  subst he
  exact ⟨_, rfl, law_post hW' rfl rfl laid (by kernel_rfl) rfl Try.underlying4 hb⟩

theorem over : Rows.sumPatchesRow.holds Try.pinned (OpenSpec.ofChange Rows.sumPatchesSpec) :=
  OpenClaim.holds_of_wide 4 Try.f4 rfl rfl rfl rfl rfl rfl rfl ⟨rfl, rfl, rfl, rfl, rfl⟩ rfl rfl rfl rfl rfl (by kernel_rfl) Try.func4 (by kernel_rfl)
    (of_decide_eq_true (by kernel_rfl)) (by unfold Func.isWrapper; first | (rw [if_pos (by decide +kernel)]; kernel_rfl) | (rw [if_neg (by decide +kernel)]; exact ⟨rfl, rfl⟩))
    (fun os started H enc _ => lifted os started H enc)

theorem proved : Rows.SumPatchesSaid := over
#print axioms proved
end Go.Proofs.Ytolmfcfpcdkaaaa.sumPatches
