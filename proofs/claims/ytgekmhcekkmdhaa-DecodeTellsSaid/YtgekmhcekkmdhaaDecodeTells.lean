/-
  The statement about Decode: what each instruction is, as the document says. For every word. Conditions: none.
-/
import Derived.Test.YtgekmhcekkmdhaaRows
import Derived.Test.YtgekmhcekkmdhaaDecQ
import Derived.Test.YtgekmhcekkmdhaaDecH
import Derived.Test.YtgekmhcekkmdhaaLaw
set_option linter.unusedVariables false
set_option linter.unusedSimpArgs false
namespace Go.Proofs.Ytgekmhcekkmdhaa.decodeTells
open Go Go.ChangeShapes Go.WideShapes Go.ChangeAt Go.RowKit

theorem eqI_self (i : Ins) : eqI i i = true := by
  obtain ⟨c, f, d, r1, r2, r3, m⟩ := i
  simp [eqI]
set_option maxHeartbeats 1000000 in
theorem walkN (x : Nat) (hx : x < 4294967296) (w : World) :
    Calls Try.prog 3 #[.int .u32 (x : Nat)] w fun e w' => e = .returned (.bool true) ∧ Grew w w' := by
  have hD := fun w => decode_c x hx w
  have hR := fun w => refDec_c x hx w
  obtain ⟨i, hi⟩ : ∃ i, (if noB (kOf x) then noI else decI x) = i := ⟨_, rfl⟩
  obtain ⟨ok, hok⟩ : ∃ ok, (!noB (kOf x)) = ok := ⟨_, rfl⟩
  rw [hi, hok] at hD hR
  clear hi hok
  have heq := ins_eql i i
  rw [eqI_self] at heq
  obtain ⟨c, f, d, r1, r2, r3, m⟩ := i
  go_enter Try.func3, Try.ntmps3
  go_wp2_with fail
  refine (hD _).mono ?_
  rintro e w1 ⟨rfl, g1⟩
  have k1 := Blk.new w1 #[.int .i64 c, .int .i64 f, .bool d, .int .i64 r1, .int .i64 r2, .int .i64 r3, .int .u64 m] 26 w1.heap.size rfl
  have G1 := g1.alloc (.cells #[.int .i64 c, .int .i64 f, .bool d, .int .i64 r1, .int .i64 r2, .int .i64 r3, .int .u64 m] 26)
  clear g1
  go_upto_region 2 with fail
  generalize w1.alloc (.cells #[.int .i64 c, .int .i64 f, .bool d, .int .i64 r1, .int .i64 r2, .int .i64 r3, .int .u64 m] 26) = w2 at *
  generalize w1.heap.size = p at *
  go_wp2_with fail
  refine (hR _).mono ?_
  rintro e w3 ⟨rfl, g3⟩
  have k3 := (k1.grew g3).alloc (.cells #[.int .i64 c, .int .i64 f, .bool d, .int .i64 r1, .int .i64 r2, .int .i64 r3, .int .u64 m] 26)
  have k4 := Blk.new w3 #[.int .i64 c, .int .i64 f, .bool d, .int .i64 r1, .int .i64 r2, .int .i64 r3, .int .u64 m] 26 w3.heap.size rfl
  have G3 := (G1.trans g3).alloc (.cells #[.int .i64 c, .int .i64 f, .bool d, .int .i64 r1, .int .i64 r2, .int .i64 r3, .int .u64 m] 26)
  clear k1 G1 g3
  go_upto_region 3 with fail
  generalize w3.alloc (.cells #[.int .i64 c, .int .i64 f, .bool d, .int .i64 r1, .int .i64 r2, .int .i64 r3, .int .u64 m] 26) = w4 at *
  generalize w3.heap.size = q at *
  have a0 : w4.cell? ⟨p, 0, none⟩ = some (.int .i64 c) := k3.cell 0
  have a1 : w4.cell? ⟨p, 1, none⟩ = some (.int .i64 f) := k3.cell 1
  have a2 : w4.cell? ⟨p, 2, none⟩ = some (.bool d) := k3.cell 2
  have a3 : w4.cell? ⟨p, 3, none⟩ = some (.int .i64 r1) := k3.cell 3
  have a4 : w4.cell? ⟨p, 4, none⟩ = some (.int .i64 r2) := k3.cell 4
  have a5 : w4.cell? ⟨p, 5, none⟩ = some (.int .i64 r3) := k3.cell 5
  have a6 : w4.cell? ⟨p, 6, none⟩ = some (.int .u64 m) := k3.cell 6
  have b0 : w4.cell? ⟨q, 0, none⟩ = some (.int .i64 c) := k4.cell 0
  have b1 : w4.cell? ⟨q, 1, none⟩ = some (.int .i64 f) := k4.cell 1
  have b2 : w4.cell? ⟨q, 2, none⟩ = some (.bool d) := k4.cell 2
  have b3 : w4.cell? ⟨q, 3, none⟩ = some (.int .i64 r1) := k4.cell 3
  have b4 : w4.cell? ⟨q, 4, none⟩ = some (.int .i64 r2) := k4.cell 4
  have b5 : w4.cell? ⟨q, 5, none⟩ = some (.int .i64 r3) := k4.cell 5
  have b6 : w4.cell? ⟨q, 6, none⟩ = some (.int .u64 m) := k4.cell 6
  clear k3 k4 hD hR
  go_wp2_with fail
  refine (heads_c G3).mono ?_
  rintro e w5 ⟨rfl, g5⟩
  go_wp2_with fail
  go_ret
  exact ⟨rfl, g5⟩
theorem walk (x : Int) (hx : 0 ≤ x ∧ x < 4294967296) (w : World) :
    Calls Try.prog 3 #[.int .u32 x] w fun e w' => e = .returned (.bool true) ∧ Below w.heap.size w w' := by
  obtain ⟨X, rfl⟩ := Int.eq_ofNat_of_zero_le hx.1
  exact walkN X (by omega) w

set_option maxRecDepth 100000 in
theorem lifted (os : Os) (started : os.Started) (H : Type) (enc : TypeId × Value → H) :
    ReturnsInHanded {} Try.checked os 3 .any (Rows.decodeTellsSpec.pre6 enc Try.prog Try.f3 Rows.decodeTellsRow.domain false) (Rows.decodeTellsSpec.post enc Try.prog Try.f3 false true false false) := by
  refine returnsInHanded_of_change (C := Try.checked) own started (by kernel_rfl) Try.func3
    (ChangeSpec.witness6 (enc := enc) (C := Try.checked) false ⟨#[], #[.int .u32 0], []⟩ 8 (by kernel_rfl) (by kernel_rfl) (by kernel_rfl) (by kernel_rfl)) ?_
  intro W base args ds gs before hval0 hW _ _
  have hval : ∀ (j : Nat) t v, Try.f3.params[j]? = some t → args[j]? = some v → Value.okWide Try.prog W .any base t v := hval0
  have hW' := hW
  obtain ⟨p, q, hA0, hV, rfl, hfz, hnd⟩ := hW
  have hA : DataW.TrodAll enc Try.prog W 0 (fun _ => true) true Try.f3.params.toList args.toList ds p := hA0
  rw [Try.params3] at hA hval
  obtain ⟨v0, vs0, d0, ds0, p0, q0, hargs, rfl, rfl, h0, r'0⟩ := trodAll_cons hA
  obtain ⟨rfl, rfl, rfl⟩ := trodAll_nil r'0
  obtain rfl : args = #[v0] := by cases args; simp_all
  obtain ⟨a0, rfl, rfl, rfl, w0⟩ := open_int Try.underlying22 (hval 0 22 v0 rfl rfl) h0
  refine (walk a0 (wf_u32 w0) W).mono fun e W' ⟨he, hb⟩ => ?_
  subst he
  exact ⟨_, rfl, law_post hW' rfl rfl laid (by kernel_rfl) rfl Try.underlying4 hb⟩

theorem over : Rows.decodeTellsRow.holds Try.pinned (OpenSpec.ofChange Rows.decodeTellsSpec) :=
  OpenClaim.holds_of_wide 3 Try.f3 rfl rfl rfl rfl rfl rfl rfl ⟨rfl, rfl, rfl, rfl, rfl⟩ rfl rfl rfl rfl rfl (by kernel_rfl) Try.func3 (by kernel_rfl)
    (of_decide_eq_true (by kernel_rfl)) (by unfold Func.isWrapper; first | (rw [if_pos (by decide +kernel)]; kernel_rfl) | (rw [if_neg (by decide +kernel)]; exact ⟨rfl, rfl⟩))
    (fun os started H enc _ => lifted os started H enc)

theorem proved : Rows.DecodeTellsSaid := over
#print axioms proved
end Go.Proofs.Ytgekmhcekkmdhaa.decodeTells
