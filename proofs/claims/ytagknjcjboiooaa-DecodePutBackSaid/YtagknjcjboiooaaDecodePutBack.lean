/-
  The statement about Encode and Decode: what is put together is taken apart as it was. For every instruction, right or not. Conditions: none.
-/
import Derived.Test.YtagknjcjboiooaaRows
import Derived.Test.YtagknjcjboiooaaDecH
import Derived.Test.YtagknjcjboiooaaOpen
set_option linter.unusedVariables false
set_option linter.unusedSimpArgs false
namespace Go.Proofs.Ytagknjcjboiooaa.decodePutBack
open Go.ChangeShapes Go.WideShapes Go.ChangeAt Go.RowKit

theorem eqI_iff (i j : Ins) : eqI i j = true ↔ i = j := by
  obtain ⟨c, f, d, r1, r2, r3, m⟩ := i
  obtain ⟨c', f', d', r1', r2', r3', m'⟩ := j
  simp [eqI]
set_option maxHeartbeats 1000000 in
theorem walkN (c f r1 r2 r3 : Int) (m : Nat) (d : Bool) (hf : -9223372036854775808 ≤ f ∧ f ≤ 9223372036854775807) (q1 : -9223372036854775808 ≤ r1 ∧ r1 ≤ 9223372036854775807) (q2 : -9223372036854775808 ≤ r2 ∧ r2 ≤ 9223372036854775807) (q3 : -9223372036854775808 ≤ r3 ∧ r3 ≤ 9223372036854775807) (hm : m < 18446744073709551616) (w : World) :
    Calls Try.prog 7 #[.agg #[.int .i64 c, .int .i64 f, .bool d, .int .i64 r1, .int .i64 r2, .int .i64 r3, .int .u64 (m : Nat)]] w fun e w' => e = .returned (.bool true) ∧ Grew w w' := by
  have hE := fun w => encode_c c f r1 r2 r3 d m hm hf.1 hf.2 q1 q2 q3 w
  cases hb : encB c f d r1 r2 r3 m
  · simp only [hb, Bool.false_eq_true, if_false] at hE
    have ga := (Grew.refl w).alloc (.cells #[.int .i64 c, .int .i64 f, .bool d, .int .i64 r1, .int .i64 r2, .int .i64 r3, .int .u64 (m : Nat)] 30)
    clear hb
    go_enter Try.func7, Try.ntmps7
    go_wp2_with fail
    refine (hE _).mono ?_
    rintro e w1 ⟨rfl, g1⟩
    go_wp2_with fail
    refine (heads_c (ga.trans g1)).mono ?_
    rintro e w2 ⟨rfl, g2⟩
    go_wp2_with fail
    go_ret
    exact ⟨rfl, g2⟩
  · simp only [hb, if_true] at hE
    have hb' := hb
    simp only [encB, Bool.and_eq_true, Bool.not_eq_true'] at hb'
    have hD := @decode_c (encN c f d r1 r2 r3 m) (encN_lt c f d r1 r2 r3 m)
    rw [if_neg (by rw [hb'.1]; decide), hb'.1, (eqI_iff _ _).1 hb'.2] at hD
    have heq := ins_eql ⟨c, f, d, r1, r2, r3, (m : Nat)⟩ ⟨c, f, d, r1, r2, r3, (m : Nat)⟩
    rw [(eqI_iff _ _).2 rfl] at heq
    clear hb hb'
    generalize encN c f d r1 r2 r3 m = E at *
    have ga := (Grew.refl w).alloc (.cells #[.int .i64 c, .int .i64 f, .bool d, .int .i64 r1, .int .i64 r2, .int .i64 r3, .int .u64 (m : Nat)] 30)
    have ka := Blk.new w #[.int .i64 c, .int .i64 f, .bool d, .int .i64 r1, .int .i64 r2, .int .i64 r3, .int .u64 (m : Nat)] 30 w.heap.size rfl
    go_enter Try.func7, Try.ntmps7
    go_wp2_with fail
    refine (hE _).mono ?_
    rintro e w1 ⟨rfl, g1⟩
    go_wp2_with fail
    refine (hD _).mono ?_
    rintro e w2 ⟨rfl, g2⟩
    have G3 := ((ga.trans g1).trans g2).alloc (.cells #[.int .i64 c, .int .i64 f, .bool d, .int .i64 r1, .int .i64 r2, .int .i64 r3, .int .u64 (m : Nat)] 30)
    have k1 := ((ka.grew g1).grew g2).alloc (.cells #[.int .i64 c, .int .i64 f, .bool d, .int .i64 r1, .int .i64 r2, .int .i64 r3, .int .u64 (m : Nat)] 30)
    have k2 := Blk.new w2 #[.int .i64 c, .int .i64 f, .bool d, .int .i64 r1, .int .i64 r2, .int .i64 r3, .int .u64 (m : Nat)] 30 w2.heap.size rfl
    clear ga ka
    go_upto_region 5 with fail
    generalize w2.alloc (.cells #[.int .i64 c, .int .i64 f, .bool d, .int .i64 r1, .int .i64 r2, .int .i64 r3, .int .u64 (m : Nat)] 30) = w3 at *
    generalize w2.heap.size = q at *
    have a0 : w3.cell? ⟨w.heap.size, 0, none⟩ = some (.int .i64 c) := k1.cell 0
    have a1 : w3.cell? ⟨w.heap.size, 1, none⟩ = some (.int .i64 f) := k1.cell 1
    have a2 : w3.cell? ⟨w.heap.size, 2, none⟩ = some (.bool d) := k1.cell 2
    have a3 : w3.cell? ⟨w.heap.size, 3, none⟩ = some (.int .i64 r1) := k1.cell 3
    have a4 : w3.cell? ⟨w.heap.size, 4, none⟩ = some (.int .i64 r2) := k1.cell 4
    have a5 : w3.cell? ⟨w.heap.size, 5, none⟩ = some (.int .i64 r3) := k1.cell 5
    have a6 : w3.cell? ⟨w.heap.size, 6, none⟩ = some (.int .u64 (m : Nat)) := k1.cell 6
    have b0 : w3.cell? ⟨q, 0, none⟩ = some (.int .i64 c) := k2.cell 0
    have b1 : w3.cell? ⟨q, 1, none⟩ = some (.int .i64 f) := k2.cell 1
    have b2 : w3.cell? ⟨q, 2, none⟩ = some (.bool d) := k2.cell 2
    have b3 : w3.cell? ⟨q, 3, none⟩ = some (.int .i64 r1) := k2.cell 3
    have b4 : w3.cell? ⟨q, 4, none⟩ = some (.int .i64 r2) := k2.cell 4
    have b5 : w3.cell? ⟨q, 5, none⟩ = some (.int .i64 r3) := k2.cell 5
    have b6 : w3.cell? ⟨q, 6, none⟩ = some (.int .u64 (m : Nat)) := k2.cell 6
    clear k1 k2
    go_wp2_with fail
    refine (heads_c G3).mono ?_
    rintro e w4 ⟨rfl, g4⟩
    go_wp2_with fail
    go_ret
    exact ⟨rfl, g4⟩
theorem walk (c f r1 r2 r3 m : Int) (d : Bool) (_hc : -9223372036854775808 ≤ c ∧ c ≤ 9223372036854775807) (hf : -9223372036854775808 ≤ f ∧ f ≤ 9223372036854775807) (q1 : -9223372036854775808 ≤ r1 ∧ r1 ≤ 9223372036854775807) (q2 : -9223372036854775808 ≤ r2 ∧ r2 ≤ 9223372036854775807) (q3 : -9223372036854775808 ≤ r3 ∧ r3 ≤ 9223372036854775807) (hm0 : 0 ≤ m) (hm1 : m < 18446744073709551616) (w : World) :
    Calls Try.prog 7 #[.agg #[.int .i64 c, .int .i64 f, .bool d, .int .i64 r1, .int .i64 r2, .int .i64 r3, .int .u64 m]] w fun e w' => e = .returned (.bool true) ∧ Below w.heap.size w w' := by
  obtain ⟨M, rfl⟩ := Int.eq_ofNat_of_zero_le hm0
  exact walkN c f r1 r2 r3 M d hf q1 q2 q3 (by omega) w

set_option maxRecDepth 100000 in
theorem lifted (os : Os) (started : os.Started) (H : Type) (enc : TypeId × Value → H) :
    ReturnsInHanded {} Try.checked os 7 .any (Rows.decodePutBackSpec.pre6 enc Try.prog Try.f7 Rows.decodePutBackRow.domain false) (Rows.decodePutBackSpec.post enc Try.prog Try.f7 false true false false) := by
  refine returnsInHanded_of_change (C := Try.checked) own started (by kernel_rfl) Try.func7
    (ChangeSpec.witness6 (enc := enc) (C := Try.checked) false ⟨#[], #[.agg #[.int .i64 0, .int .i64 0, .bool false, .int .i64 0, .int .i64 0, .int .i64 0, .int .u64 0]], []⟩ 8 (by kernel_rfl) (by kernel_rfl) (by kernel_rfl) (by kernel_rfl)) ?_
  intro W base args ds gs before hval0 hW _ _
  have hval : ∀ (j : Nat) t v, Try.f7.params[j]? = some t → args[j]? = some v → Value.okWide Try.prog W .any base t v := hval0
  have hW' := hW
  obtain ⟨p, q, hA0, hV, rfl, hfz, hnd⟩ := hW
  have hA : DataW.TrodAll enc Try.prog W 0 (fun _ => true) true Try.f7.params.toList args.toList ds p := hA0
  rw [Try.params7] at hA hval
  obtain ⟨v0, vs0, d0, ds0, p0, q0, hargs, rfl, rfl, h0, r'0⟩ := trodAll_cons hA
  obtain ⟨rfl, rfl, rfl⟩ := trodAll_nil r'0
  obtain rfl : args = #[v0] := by cases args; simp_all
  obtain ⟨c0, f0, x0, y0, z0, m0, b0, rfl, wc0, wf0, wx0, wy0, wz0, wm0, wn0⟩ := open_ins (hval 0 30 v0 rfl rfl) h0
  refine (walk c0 f0 x0 y0 z0 m0 b0 wc0 wf0 wx0 wy0 wz0 wm0 wn0 W).mono fun e W' ⟨he, hb⟩ => ?_
  subst he
  exact ⟨_, rfl, law_post hW' rfl rfl laid (by kernel_rfl) rfl Try.underlying4 hb⟩

theorem over : Rows.decodePutBackRow.holds Try.pinned (OpenSpec.ofChange Rows.decodePutBackSpec) :=
  OpenClaim.holds_of_wide 7 Try.f7 rfl rfl rfl rfl rfl rfl rfl ⟨rfl, rfl, rfl, rfl, rfl⟩ rfl rfl rfl rfl rfl (by kernel_rfl) Try.func7 (by kernel_rfl)
    (of_decide_eq_true (by kernel_rfl)) (by unfold Func.isWrapper; first | (rw [if_pos (by decide +kernel)]; kernel_rfl) | (rw [if_neg (by decide +kernel)]; exact ⟨rfl, rfl⟩))
    (fun os started H enc _ => lifted os started H enc)

theorem proved : Rows.DecodePutBackSaid := over
#print axioms proved
end Go.Proofs.Ytagknjcjboiooaa.decodePutBack
