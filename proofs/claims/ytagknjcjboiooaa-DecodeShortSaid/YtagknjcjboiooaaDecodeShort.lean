/-
  The statement about short instructions: what each of them stands for is an instruction. For every one of sixteen bits. Conditions: none.
-/
import Derived.Test.YtagknjcjboiooaaRows
import Derived.Test.YtagknjcjboiooaaRvcE2
import Derived.Test.YtagknjcjboiooaaShortAll
import Derived.Test.YtagknjcjboiooaaDecH
import Derived.Test.YtagknjcjboiooaaLaw
set_option linter.unusedVariables false
set_option linter.unusedSimpArgs false
namespace Go.Proofs.Ytagknjcjboiooaa.decodeShort
open Go.ChangeShapes Go.WideShapes Go.ChangeAt Go.RowKit

theorem rexpand (h : Nat) (hh : h < 65536) (w : World) :
    Calls Try.prog 9 #[.int .u16 h] w fun e w' => e = .returned (.tuple #[.int .u32 (if refB h then refW h else 0 : Nat), .bool (refB h)]) ∧ w' = w := by
  have hm : h % 4 = 0 ∨ h % 4 = 1 ∨ h % 4 = 2 ∨ h % 4 = 3 := by omega
  rcases hm with hm | hm | hm | hm
  · have r1 : refW h = zV h := by unfold refW; rw [if_pos hm]
    have r2 : refB h = zB h := by unfold refB; rw [if_pos hm]
    rw [r1, r2]
    clear r1 r2
    have hi : ((h : Nat) : Int) % 4 = 0 := by omega
    clear hm
    cases hb : zB h
    all_goals
      go_enter Try.func9, Try.ntmps9
      go_wp2_with ((go_at_call 15; refine (rzero h hh _).mono ?_; rintro e w' ⟨rfl, rfl⟩))
      go_ret2
      exact ⟨rfl, rfl⟩
  · have r1 : refW h = oV h := by unfold refW; rw [if_neg (show ¬ h % 4 = 0 by omega), if_pos hm]
    have r2 : refB h = oB h := by unfold refB; rw [if_neg (show ¬ h % 4 = 0 by omega), if_pos hm]
    rw [r1, r2]
    clear r1 r2
    have hi : ((h : Nat) : Int) % 4 = 1 := by omega
    clear hm
    cases hb : oB h
    all_goals
      go_enter Try.func9, Try.ntmps9
      go_wp2_with ((go_at_call 16; refine (rone h hh _).mono ?_; rintro e w' ⟨rfl, rfl⟩))
      go_ret2
      exact ⟨rfl, rfl⟩
  · have r1 : refW h = tV h := by unfold refW; rw [if_neg (show ¬ h % 4 = 0 by omega), if_neg (show ¬ h % 4 = 1 by omega), if_pos hm]
    have r2 : refB h = tB h := by unfold refB; rw [if_neg (show ¬ h % 4 = 0 by omega), if_neg (show ¬ h % 4 = 1 by omega), if_pos hm]
    rw [r1, r2]
    clear r1 r2
    have hi : ((h : Nat) : Int) % 4 = 2 := by omega
    clear hm
    cases hb : tB h
    all_goals
      go_enter Try.func9, Try.ntmps9
      go_wp2_with ((go_at_call 17; refine (rtwo h hh _).mono ?_; rintro e w' ⟨rfl, rfl⟩))
      go_ret2
      exact ⟨rfl, rfl⟩
  · have r1 : refW h = 0 := by unfold refW; rw [if_neg (by omega), if_neg (by omega), if_neg (by omega)]
    have r2 : refB h = false := by unfold refB; rw [if_neg (by omega), if_neg (by omega), if_neg (by omega)]
    rw [r1, r2]
    clear r1 r2
    have hi : ((h : Nat) : Int) % 4 = 3 := by omega
    clear hm
    go_enter Try.func9, Try.ntmps9
    go_wp2_with fail
    go_ret2
    exact ⟨rfl, rfl⟩


theorem chk_yes (h : Nat) (hh : h < 65536) (hb : refB h = true) : refW h < 4294967296 ∧ 1 ≤ (kOf (refW h)).c ∧ (kOf (refW h)).c ≤ 11 := by
  have := chk_all h hh
  unfold chkS at this
  rw [if_pos hb] at this
  generalize kOf (refW h) = k at *
  obtain ⟨c, f, d⟩ := k
  simp only [Bool.and_eq_true, decide_eq_true_eq] at this
  exact ⟨this.2, this.1.1, this.1.2⟩
theorem noB_of (k : Kd) (h : 1 ≤ k.c) : noB k = false := by
  obtain ⟨c, f, d⟩ := k
  have : ¬ c = 0 := by intro h0; subst h0; simp at h
  simp [noB, eqI, noI, this]

set_option maxHeartbeats 1000000 in
theorem walk (x : Int) (hx : 0 ≤ x ∧ x < 65536) (w : World) :
    Calls Try.prog 3 #[.int .u16 x] w fun e w' => e = .returned (.bool true) ∧ Below w.heap.size w w' := by
  obtain ⟨h, rfl⟩ := Int.eq_ofNat_of_zero_le hx.1
  have hh : h < 65536 := by omega
  have hr := rexpand h hh
  cases hb : refB h
  · rw [hb, if_neg (by decide)] at hr
    clear hb
    go_enter Try.func3, Try.ntmps3
    go_wp2_with fail
    refine (hr _).mono ?_
    rintro e w1 ⟨rfl, h1⟩
    obtain rfl := h1.symm
    go_wp2_with fail
    refine (heads_c (Grew.refl _)).mono ?_
    rintro e w2 ⟨rfl, g2⟩
    go_wp2_with fail
    go_ret
    exact ⟨rfl, g2⟩
  · obtain ⟨h1, h2, h3⟩ := chk_yes h hh hb
    have hD := @decode_c (refW h) h1
    rw [if_neg (by rw [noB_of _ h2]; decide), noB_of _ h2] at hD
    have hc : (decI (refW h)).c = (kOf (refW h)).c := rfl
    rw [← hc] at h2 h3
    rw [hb, if_pos rfl] at hr
    clear hb hc
    generalize decI (refW h) = i at *
    generalize refW h = W at *
    go_enter Try.func3, Try.ntmps3
    go_wp2_with fail
    refine (hr _).mono ?_
    rintro e w1 ⟨rfl, hw1⟩
    obtain rfl := hw1.symm
    go_wp2_with fail
    refine (hD _).mono ?_
    rintro e w2 ⟨rfl, g2⟩
    have G := g2.alloc (.cells #[.int .i64 i.c, .int .i64 i.f, .bool i.d, .int .i64 i.r1, .int .i64 i.r2, .int .i64 i.r3, .int .u64 i.m] 30)
    go_wp2_with fail
    refine (heads_c G).mono ?_
    rintro e w3 ⟨rfl, g3⟩
    go_wp2_with fail
    go_ret
    exact ⟨rfl, g3⟩

set_option maxRecDepth 100000 in
theorem lifted (os : Os) (started : os.Started) (H : Type) (enc : TypeId × Value → H) :
    ReturnsInHanded {} Try.checked os 3 .any (Rows.decodeShortSpec.pre6 enc Try.prog Try.f3 Rows.decodeShortRow.domain false) (Rows.decodeShortSpec.post enc Try.prog Try.f3 false true false false) := by
  refine returnsInHanded_of_change (C := Try.checked) own started (by kernel_rfl) Try.func3
    (ChangeSpec.witness6 (enc := enc) (C := Try.checked) false ⟨#[], #[.int .u16 0], []⟩ 8 (by kernel_rfl) (by kernel_rfl) (by kernel_rfl) (by kernel_rfl)) ?_
  intro W base args ds gs before hval0 hW _ _
  have hval : ∀ (j : Nat) t v, Try.f3.params[j]? = some t → args[j]? = some v → Value.okWide Try.prog W .any base t v := hval0
  have hW' := hW
  obtain ⟨p, q, hA0, hV, rfl, hfz, hnd⟩ := hW
  have hA : DataW.TrodAll enc Try.prog W 0 (fun _ => true) true Try.f3.params.toList args.toList ds p := hA0
  rw [Try.params3] at hA hval
  obtain ⟨v0, vs0, d0, ds0, p0, q0, hargs, rfl, rfl, h0, r'0⟩ := trodAll_cons hA
  obtain ⟨rfl, rfl, rfl⟩ := trodAll_nil r'0
  obtain rfl : args = #[v0] := by cases args; simp_all
  obtain ⟨a0, rfl, rfl, rfl, w0⟩ := open_int Try.underlying22 (hval 0 22 v0 rfl rfl) h0
  refine (walk a0 (wf_u16 w0) W).mono fun e W' ⟨he, hb⟩ => ?_
  subst he
  exact ⟨_, rfl, law_post hW' rfl rfl laid (by kernel_rfl) rfl Try.underlying4 hb⟩

theorem over : Rows.decodeShortRow.holds Try.pinned (OpenSpec.ofChange Rows.decodeShortSpec) :=
  OpenClaim.holds_of_wide 3 Try.f3 rfl rfl rfl rfl rfl rfl rfl ⟨rfl, rfl, rfl, rfl, rfl⟩ rfl rfl rfl rfl rfl (by kernel_rfl) Try.func3 (by kernel_rfl)
    (of_decide_eq_true (by kernel_rfl)) (by unfold Func.isWrapper; first | (rw [if_pos (by decide +kernel)]; kernel_rfl) | (rw [if_neg (by decide +kernel)]; exact ⟨rfl, rfl⟩))
    (fun os started H enc _ => lifted os started H enc)

theorem proved : Rows.DecodeShortSaid := over
#print axioms proved
end Go.Proofs.Ytagknjcjboiooaa.decodeShort
