/-
  The statement about Encode: which word each instruction is, as the document says. For every instruction, right or not. Conditions: none.
-/
import Derived.Test.YtgekmhcekkmdhaaRows
import Derived.Test.YtgekmhcekkmdhaaDecPf
import Derived.Test.YtgekmhcekkmdhaaDecH
import Derived.Test.YtgekmhcekkmdhaaOpen
set_option linter.unusedVariables false
set_option linter.unusedSimpArgs false
namespace Go.Proofs.Ytgekmhcekkmdhaa.decodePuts
open Go Go.ChangeShapes Go.WideShapes Go.ChangeAt Go.RowKit

set_option maxHeartbeats 1000000 in
theorem walkN (c f r1 r2 r3 : Int) (m : Nat) (d : Bool) (hf : -9223372036854775808 ≤ f ∧ f ≤ 9223372036854775807) (q1 : -9223372036854775808 ≤ r1 ∧ r1 ≤ 9223372036854775807) (q2 : -9223372036854775808 ≤ r2 ∧ r2 ≤ 9223372036854775807) (q3 : -9223372036854775808 ≤ r3 ∧ r3 ≤ 9223372036854775807) (hm : m < 18446744073709551616) (w : World) :
    Calls Try.prog 4 #[.agg #[.int .i64 c, .int .i64 f, .bool d, .int .i64 r1, .int .i64 r2, .int .i64 r3, .int .u64 (m : Nat)]] w fun e w' => e = .returned (.bool true) ∧ Grew w w' := by
  have hE := fun w => encode_c c f r1 r2 r3 d m hm hf.1 hf.2 q1 q2 q3 w
  have hR := fun w => rEnc_c c f r1 r2 r3 d m hm q1 q2 q3 w
  obtain ⟨E, hE0⟩ : ∃ E : Nat, (if encB c f d r1 r2 r3 m then encN c f d r1 r2 r3 m else 0) = E := ⟨_, rfl⟩
  obtain ⟨ok, hok⟩ : ∃ ok, encB c f d r1 r2 r3 m = ok := ⟨_, rfl⟩
  rw [hE0, hok] at hE hR
  clear hE0 hok hm hf q1 q2 q3
  have HE := Lib.hid hE
  have HR := Lib.hid hR
  clear hE hR
  have k0 := Blk.new w #[.int .i64 c, .int .i64 f, .bool d, .int .i64 r1, .int .i64 r2, .int .i64 r3, .int .u64 (m : Nat)] 26 w.heap.size rfl
  have g0 := (Grew.refl w).alloc (.cells #[.int .i64 c, .int .i64 f, .bool d, .int .i64 r1, .int .i64 r2, .int .i64 r3, .int .u64 (m : Nat)] 26)
  go_enter Try.func4, Try.ntmps4
  go_upto_region 1 with fail
  generalize w.alloc (.cells #[.int .i64 c, .int .i64 f, .bool d, .int .i64 r1, .int .i64 r2, .int .i64 r3, .int .u64 (m : Nat)] 26) = wa at *
  have a0 : wa.cell? ⟨w.heap.size, 0, none⟩ = some (.int .i64 c) := k0.cell 0
  have a1 : wa.cell? ⟨w.heap.size, 1, none⟩ = some (.int .i64 f) := k0.cell 1
  have a2 : wa.cell? ⟨w.heap.size, 2, none⟩ = some (.bool d) := k0.cell 2
  have a3 : wa.cell? ⟨w.heap.size, 3, none⟩ = some (.int .i64 r1) := k0.cell 3
  have a4 : wa.cell? ⟨w.heap.size, 4, none⟩ = some (.int .i64 r2) := k0.cell 4
  have a5 : wa.cell? ⟨w.heap.size, 5, none⟩ = some (.int .i64 r3) := k0.cell 5
  have a6 : wa.cell? ⟨w.heap.size, 6, none⟩ = some (.int .u64 (m : Nat)) := k0.cell 6
  have hA := k0.lt
  go_wp2_with fail
  refine (HE.out _).mono ?_
  rintro e w1 ⟨rfl, g1⟩
  have k1 := k0.grew g1
  clear k0
  have b0 : w1.cell? ⟨w.heap.size, 0, none⟩ = some (.int .i64 c) := k1.cell 0
  have b1 : w1.cell? ⟨w.heap.size, 1, none⟩ = some (.int .i64 f) := k1.cell 1
  have b2 : w1.cell? ⟨w.heap.size, 2, none⟩ = some (.bool d) := k1.cell 2
  have b3 : w1.cell? ⟨w.heap.size, 3, none⟩ = some (.int .i64 r1) := k1.cell 3
  have b4 : w1.cell? ⟨w.heap.size, 4, none⟩ = some (.int .i64 r2) := k1.cell 4
  have b5 : w1.cell? ⟨w.heap.size, 5, none⟩ = some (.int .i64 r3) := k1.cell 5
  have b6 : w1.cell? ⟨w.heap.size, 6, none⟩ = some (.int .u64 (m : Nat)) := k1.cell 6
  have hB := k1.lt
  clear k1
  go_wp2_with fail
  refine (HR.out _).mono ?_
  rintro e w2 ⟨rfl, g2⟩
  go_wp2_with fail
  refine (heads_c ((g0.trans g1).trans g2)).mono ?_
  rintro e w3 ⟨rfl, g3⟩
  go_wp2_with fail
  go_ret
  exact ⟨rfl, g3⟩
theorem walk (c f r1 r2 r3 m : Int) (d : Bool) (_hc : -9223372036854775808 ≤ c ∧ c ≤ 9223372036854775807) (hf : -9223372036854775808 ≤ f ∧ f ≤ 9223372036854775807) (q1 : -9223372036854775808 ≤ r1 ∧ r1 ≤ 9223372036854775807) (q2 : -9223372036854775808 ≤ r2 ∧ r2 ≤ 9223372036854775807) (q3 : -9223372036854775808 ≤ r3 ∧ r3 ≤ 9223372036854775807) (hm0 : 0 ≤ m) (hm1 : m < 18446744073709551616) (w : World) :
    Calls Try.prog 4 #[.agg #[.int .i64 c, .int .i64 f, .bool d, .int .i64 r1, .int .i64 r2, .int .i64 r3, .int .u64 m]] w fun e w' => e = .returned (.bool true) ∧ Below w.heap.size w w' := by
  obtain ⟨M, rfl⟩ := Int.eq_ofNat_of_zero_le hm0
  exact walkN c f r1 r2 r3 M d hf q1 q2 q3 (by omega) w

set_option maxRecDepth 100000 in
theorem lifted (os : Os) (started : os.Started) (H : Type) (enc : TypeId × Value → H) :
    ReturnsInHanded {} Try.checked os 4 .any (Rows.decodePutsSpec.pre6 enc Try.prog Try.f4 Rows.decodePutsRow.domain false) (Rows.decodePutsSpec.post enc Try.prog Try.f4 false true false false) := by
  refine returnsInHanded_of_change (C := Try.checked) own started (by kernel_rfl) Try.func4
    (ChangeSpec.witness6 (enc := enc) (C := Try.checked) false ⟨#[], #[.agg #[.int .i64 0, .int .i64 0, .bool false, .int .i64 0, .int .i64 0, .int .i64 0, .int .u64 0]], []⟩ 8 (by kernel_rfl) (by kernel_rfl) (by kernel_rfl) (by kernel_rfl)) ?_
  intro W base args ds gs before hval0 hW _ _
  have hval : ∀ (j : Nat) t v, Try.f4.params[j]? = some t → args[j]? = some v → Value.okWide Try.prog W .any base t v := hval0
  have hW' := hW
  obtain ⟨p, q, hA0, hV, rfl, hfz, hnd⟩ := hW
  have hA : DataW.TrodAll enc Try.prog W 0 (fun _ => true) true Try.f4.params.toList args.toList ds p := hA0
  rw [Try.params4] at hA hval
  obtain ⟨v0, vs0, d0, ds0, p0, q0, hargs, rfl, rfl, h0, r'0⟩ := trodAll_cons hA
  obtain ⟨rfl, rfl, rfl⟩ := trodAll_nil r'0
  obtain rfl : args = #[v0] := by cases args; simp_all
  obtain ⟨c0, f0, x0, y0, z0, m0, b0, rfl, wc0, wf0, wx0, wy0, wz0, wm0, wn0⟩ := open_ins (hval 0 26 v0 rfl rfl) h0
  refine (walk c0 f0 x0 y0 z0 m0 b0 wc0 wf0 wx0 wy0 wz0 wm0 wn0 W).mono fun e W' ⟨he, hb⟩ => ?_
  subst he
  exact ⟨_, rfl, law_post hW' rfl rfl laid (by kernel_rfl) rfl Try.underlying4 hb⟩

theorem over : Rows.decodePutsRow.holds Try.pinned (OpenSpec.ofChange Rows.decodePutsSpec) :=
  OpenClaim.holds_of_wide 4 Try.f4 rfl rfl rfl rfl rfl rfl rfl ⟨rfl, rfl, rfl, rfl, rfl⟩ rfl rfl rfl rfl rfl (by kernel_rfl) Try.func4 (by kernel_rfl)
    (of_decide_eq_true (by kernel_rfl)) (by unfold Func.isWrapper; first | (rw [if_pos (by decide +kernel)]; kernel_rfl) | (rw [if_neg (by decide +kernel)]; exact ⟨rfl, rfl⟩))
    (fun os started H enc _ => lifted os started H enc)

theorem proved : Rows.DecodePutsSaid := over
#print axioms proved
end Go.Proofs.Ytgekmhcekkmdhaa.decodePuts
