/-
  The statement about Expand: what a short instruction stands for is a long one, and a long one stands for nothing. For every one of sixteen bits. Conditions: none.
-/
import Derived.Test.YtchogiglejnlhaaRows
import Derived.Test.YtchogiglejnlhaaRvcH
import Derived.Test.YtchogiglejnlhaaLaw
namespace Go.Proofs.Ytchogiglejnlhaa.rvcLong
open Go.ChangeShapes Go.WideShapes Go.ChangeAt Go.RowKit

theorem walk (x : Int) (hx : 0 ≤ x ∧ x < 65536) (w : World) :
    Calls Try.prog 4 #[.int .u16 x] w fun e w' => e = .returned (.bool true) ∧ Below w.heap.size w w' := by
  obtain ⟨h, rfl⟩ := Int.eq_ofNat_of_zero_le hx.1
  have hh : h < 65536 := by omega
  have hr := expand_c h hh (Grew.refl w)
  by_cases hk : expN h = 0
  · rw [hk, show okB h = false by rw [okB_eq, hk]; rfl] at hr
    clear hk
    go_enter Try.func4, Try.ntmps4
    go_wp2_with fail
    refine hr.mono ?_
    rintro e w1 ⟨rfl, g1⟩
    go_wp2_with fail
    refine (heads_c g1).mono ?_
    rintro e w5 ⟨rfl, g5⟩
    go_wp2_with fail
    go_ret
    exact ⟨rfl, g5⟩
  · obtain ⟨h1, h2, h3⟩ := chk_long h hh hk
    have s1 : shB h = true := by rw [shB_eq]; simp [h3]
    have s2 : shB (expN h % 65536) = false := by rw [shB_eq]; simp; omega
    have hm : ((expN h : Nat) : Int) % 4 = 3 := by omega
    have hw : IntKind.u16.wrap ((expN h : Nat) : Int) = ((expN h % 65536 : Nat) : Int) := by simp [IntKind.wrap, IntKind.bits, IntKind.signed]
    rw [show okB h = true by rw [okB_eq]; simp [hk]] at hr
    clear hk h1 h3
    go_enter Try.func4, Try.ntmps4
    go_wp2_with fail
    refine hr.mono ?_
    rintro e w1 ⟨rfl, g1⟩
    go_wp2_with fail
    refine (short_c h hh g1).mono ?_
    rintro e w2 ⟨rfl, g2⟩
    rw [s1]
    go_wp2_with fail
    refine (short_c (expN h % 65536) (by omega) g2).mono ?_
    rintro e w3 ⟨rfl, g3⟩
    rw [s2]
    go_wp2_with fail
    refine (heads_c g3).mono ?_
    rintro e w5 ⟨rfl, g5⟩
    go_wp2_with fail
    go_ret
    exact ⟨rfl, g5⟩

set_option maxRecDepth 100000 in
theorem lifted (os : Os) (started : os.Started) (H : Type) (enc : TypeId × Value → H) :
    ReturnsInHanded {} Try.checked os 4 .any (Rows.rvcLongSpec.pre6 enc Try.prog Try.f4 Rows.rvcLongRow.domain false) (Rows.rvcLongSpec.post enc Try.prog Try.f4 false true false false) := by
  refine returnsInHanded_of_change (C := Try.checked) own started (by kernel_rfl) Try.func4
    (ChangeSpec.witness6 (enc := enc) (C := Try.checked) false ⟨#[], #[.int .u16 0], []⟩ 8 (by kernel_rfl) (by kernel_rfl) (by kernel_rfl) (by kernel_rfl)) ?_
  intro W base args ds gs before hval0 hW _ _
  have hval : ∀ (j : Nat) t v, Try.f4.params[j]? = some t → args[j]? = some v → Value.okWide Try.prog W .any base t v := hval0
  have hW' := hW
  obtain ⟨p, q, hA0, hV, rfl, hfz, hnd⟩ := hW
  have hA : DataW.TrodAll enc Try.prog W 0 (fun _ => true) true Try.f4.params.toList args.toList ds p := hA0
  rw [Try.params4] at hA hval
  obtain ⟨v0, vs0, d0, ds0, p0, q0, hargs, rfl, rfl, h0, r'0⟩ := trodAll_cons hA
  obtain ⟨rfl, rfl, rfl⟩ := trodAll_nil r'0
  obtain rfl : args = #[v0] := by cases args; simp_all
  obtain ⟨a0, rfl, rfl, rfl, w0⟩ := open_int Try.underlying22 (hval 0 22 v0 rfl rfl) h0
  refine (walk a0 (wf_u16 w0) W).mono fun e W' ⟨he, hb⟩ => ?_
  subst he
  exact ⟨_, rfl, law_post hW' rfl rfl laid (by kernel_rfl) rfl Try.underlying4 hb⟩

theorem over : Rows.rvcLongRow.holds Try.pinned (OpenSpec.ofChange Rows.rvcLongSpec) :=
  OpenClaim.holds_of_wide 4 Try.f4 rfl rfl rfl rfl rfl rfl rfl ⟨rfl, rfl, rfl, rfl, rfl⟩ rfl rfl rfl rfl rfl (by kernel_rfl) Try.func4 (by kernel_rfl)
    (of_decide_eq_true (by kernel_rfl)) (by unfold Func.isWrapper; first | (rw [if_pos (by decide +kernel)]; kernel_rfl) | (rw [if_neg (by decide +kernel)]; exact ⟨rfl, rfl⟩))
    (fun os started H enc _ => lifted os started H enc)

theorem proved : Rows.RvcLongSaid := over
#print axioms proved
end Go.Proofs.Ytchogiglejnlhaa.rvcLong
