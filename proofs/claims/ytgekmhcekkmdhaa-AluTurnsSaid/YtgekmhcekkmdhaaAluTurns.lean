/-
  The statement about comparisons: one and its contrary never agree; of two numbers one is less, or they are equal. For every a and b. Conditions: none.
-/
import Derived.Test.YtgekmhcekkmdhaaAluH
import Derived.Test.YtgekmhcekkmdhaaAluM
import Derived.Test.YtgekmhcekkmdhaaLaw
set_option linter.unusedVariables false
set_option linter.unusedSimpArgs false
namespace Go.Proofs.Ytgekmhcekkmdhaa.aluTurns
open Go.ChangeShapes Go.WideShapes Go.ChangeAt Go.RowKit

/-- What the comparisons answer, each a plain bool. -/
structure Says (a b : Int) (eq lt gt : Bool) (lo : Bool) (x16 x20 x24 x28 : Int) : Prop where
  c0 : condV 0 a b = eq
  c1 : condV 1 a b = !eq
  c4 : condV 4 a b = lt
  c5 : condV 5 a b = !lt
  c6 : condV 6 a b = lo
  c7 : condV 7 a b = !lo
  c4' : condV 4 b a = gt
  e : (a == b) = eq
  n : (a != b) = !eq
  o : (lt || gt) = !eq
  m16 : AmoV 16 false a b = x16
  m20 : AmoV 20 false a b = x20
  m24 : AmoV 24 false a b = x24
  m28 : AmoV 28 false a b = x28
  s1 : (IntKind.u64.wrap (x16 + x20) == IntKind.u64.wrap (a + b)) = true
  s2 : (IntKind.u64.wrap (x24 + x28) == IntKind.u64.wrap (a + b)) = true
theorem says (a b : Int) (a0 : 0 ≤ a) (a1 : a < 18446744073709551616) (b0 : 0 ≤ b) (b1 : b < 18446744073709551616) : ∃ eq lt gt lo x16 x20 x24 x28, Says a b eq lt gt lo x16 x20 x24 x28 := by
  have hi := wrap64_inj a b a0 a1 b0 b1
  have hc : wrap64 a = wrap64 b ∨ wrap64 a ≠ wrap64 b := by omega
  refine ⟨a == b, decide (wrap64 a < wrap64 b), decide (wrap64 b < wrap64 a), decide (a < b), _, _, _, _, ⟨by simp [condV], by simp [condV, bne], by simp [condV], ?_, by simp [condV], ?_, by simp [condV], rfl, by simp [bne], ?_, amo_16 a b a0 a1 b0 b1, amo_20 a b a0 a1 b0 b1, amo_24 a b, amo_28 a b, ?_, ?_⟩⟩
  · rw [show condV 5 a b = decide (wrap64 b ≤ wrap64 a) by simp [condV], ← decide_not]
    congr 1
    simp [Int.not_lt]
  · rw [show condV 7 a b = decide (b ≤ a) by simp [condV], ← decide_not]
    congr 1
    simp [Int.not_lt]
  · by_cases h : a = b
    · subst h; simp
    · have : wrap64 a ≠ wrap64 b := fun h' => h (hi h')
      rw [show (a == b) = false by simpa using h]
      simp only [Bool.not_false, Bool.or_eq_true, decide_eq_true_eq]
      omega
  · rw [beq_iff_eq]
    split
    · rw [Int.add_comm]
    · rfl
  · rw [beq_iff_eq]
    split
    · rw [Int.add_comm]
    · rfl

set_option maxRecDepth 100000 in
set_option maxHeartbeats 4000000 in
theorem walk_eq (a b : Int) (a0 : 0 ≤ a) (a1 : a < 18446744073709551616) (b0 : 0 ≤ b) (b1 : b < 18446744073709551616) (lo : Bool) (x16 x20 x24 x28 : Int) (s : Says a b true false false lo x16 x20 x24 x28) (w : World) :
    Calls Try.prog 9 #[.int .u64 a, .int .u64 b] w fun e w' => e = .returned (.bool true) ∧ Below w.heap.size w w' := by
  have hne : (a != b) = false := s.n
  have heq := s.e
  have s1 := s.s1
  have s2 := s.s2
  have hlo : (lo == !lo) = false := by cases lo <;> rfl
  have S := Lib.hid s
  clear s
  go_enter Try.func9, Try.ntmps9
  go_wp2_with fail
  refine (cond_is _ _ _ _ S.out.c0 a0 a1 b0 b1 (Grew.refl w)).mono ?_
  rintro e w1 ⟨rfl, g1⟩
  go_wp2_with fail
  refine (cond_is _ _ _ _ S.out.c1 a0 a1 b0 b1 g1).mono ?_
  rintro e w2 ⟨rfl, g2⟩
  simp only [Bool.not_true, Bool.not_false]
  go_wp2_with fail
  refine (cond_is _ _ _ _ S.out.c4 a0 a1 b0 b1 g2).mono ?_
  rintro e w3 ⟨rfl, g3⟩
  go_wp2_with fail
  refine (cond_is _ _ _ _ S.out.c5 a0 a1 b0 b1 g3).mono ?_
  rintro e w4 ⟨rfl, g4⟩
  simp only [Bool.not_true, Bool.not_false]
  go_wp2_with fail
  refine (cond_is _ _ _ _ S.out.c6 a0 a1 b0 b1 g4).mono ?_
  rintro e w5 ⟨rfl, g5⟩
  go_wp2_with fail
  refine (cond_is _ _ _ _ S.out.c7 a0 a1 b0 b1 g5).mono ?_
  rintro e w6 ⟨rfl, g6⟩
  go_wp2_with fail
  refine (cond_is _ _ _ _ S.out.c4 a0 a1 b0 b1 g6).mono ?_
  rintro e w7 ⟨rfl, g7⟩
  go_wp2_with fail
  refine (cond_is _ _ _ _ S.out.c4' b0 b1 a0 a1 g7).mono ?_
  rintro e w8 ⟨rfl, g8⟩
  go_wp2_with fail
  refine (cond_is _ _ _ _ S.out.c0 a0 a1 b0 b1 g8).mono ?_
  rintro e w9 ⟨rfl, g9⟩
  go_wp2_with fail
  refine (Amo_is _ _ _ _ _ S.out.m16 a0 a1 b0 b1 g9).mono ?_
  rintro e w10 ⟨rfl, g10⟩
  go_wp2_with fail
  refine (Amo_is _ _ _ _ _ S.out.m20 a0 a1 b0 b1 g10).mono ?_
  rintro e w11 ⟨rfl, g11⟩
  go_wp2_with fail
  refine (Amo_is _ _ _ _ _ S.out.m24 a0 a1 b0 b1 g11).mono ?_
  rintro e w12 ⟨rfl, g12⟩
  go_wp2_with fail
  refine (Amo_is _ _ _ _ _ S.out.m28 a0 a1 b0 b1 g12).mono ?_
  rintro e w13 ⟨rfl, g13⟩
  go_wp2_with fail
  refine (heads_c g13).mono ?_
  rintro e w99 ⟨rfl, g99⟩
  go_wp2_with fail
  go_ret
  exact ⟨rfl, g99⟩
set_option maxRecDepth 100000 in
set_option maxHeartbeats 4000000 in
theorem walk_lt (a b : Int) (a0 : 0 ≤ a) (a1 : a < 18446744073709551616) (b0 : 0 ≤ b) (b1 : b < 18446744073709551616) (gt : Bool) (lo : Bool) (x16 x20 x24 x28 : Int) (s : Says a b false true gt lo x16 x20 x24 x28) (w : World) :
    Calls Try.prog 9 #[.int .u64 a, .int .u64 b] w fun e w' => e = .returned (.bool true) ∧ Below w.heap.size w w' := by
  have hne : (a != b) = true := s.n
  have heq := s.e
  have s1 := s.s1
  have s2 := s.s2
  have hlo : (lo == !lo) = false := by cases lo <;> rfl
  have S := Lib.hid s
  clear s
  go_enter Try.func9, Try.ntmps9
  go_wp2_with fail
  refine (cond_is _ _ _ _ S.out.c0 a0 a1 b0 b1 (Grew.refl w)).mono ?_
  rintro e w1 ⟨rfl, g1⟩
  go_wp2_with fail
  refine (cond_is _ _ _ _ S.out.c1 a0 a1 b0 b1 g1).mono ?_
  rintro e w2 ⟨rfl, g2⟩
  simp only [Bool.not_true, Bool.not_false]
  go_wp2_with fail
  refine (cond_is _ _ _ _ S.out.c4 a0 a1 b0 b1 g2).mono ?_
  rintro e w3 ⟨rfl, g3⟩
  go_wp2_with fail
  refine (cond_is _ _ _ _ S.out.c5 a0 a1 b0 b1 g3).mono ?_
  rintro e w4 ⟨rfl, g4⟩
  simp only [Bool.not_true, Bool.not_false]
  go_wp2_with fail
  refine (cond_is _ _ _ _ S.out.c6 a0 a1 b0 b1 g4).mono ?_
  rintro e w5 ⟨rfl, g5⟩
  go_wp2_with fail
  refine (cond_is _ _ _ _ S.out.c7 a0 a1 b0 b1 g5).mono ?_
  rintro e w6 ⟨rfl, g6⟩
  go_wp2_with fail
  refine (cond_is _ _ _ _ S.out.c4 a0 a1 b0 b1 g6).mono ?_
  rintro e w7 ⟨rfl, g7⟩
  go_wp2_with fail
  refine (cond_is _ _ _ _ S.out.c0 a0 a1 b0 b1 g7).mono ?_
  rintro e w8 ⟨rfl, g8⟩
  go_wp2_with fail
  refine (Amo_is _ _ _ _ _ S.out.m16 a0 a1 b0 b1 g8).mono ?_
  rintro e w9 ⟨rfl, g9⟩
  go_wp2_with fail
  refine (Amo_is _ _ _ _ _ S.out.m20 a0 a1 b0 b1 g9).mono ?_
  rintro e w10 ⟨rfl, g10⟩
  go_wp2_with fail
  refine (Amo_is _ _ _ _ _ S.out.m24 a0 a1 b0 b1 g10).mono ?_
  rintro e w11 ⟨rfl, g11⟩
  go_wp2_with fail
  refine (Amo_is _ _ _ _ _ S.out.m28 a0 a1 b0 b1 g11).mono ?_
  rintro e w12 ⟨rfl, g12⟩
  go_wp2_with fail
  refine (heads_c g12).mono ?_
  rintro e w99 ⟨rfl, g99⟩
  go_wp2_with fail
  go_ret
  exact ⟨rfl, g99⟩
set_option maxRecDepth 100000 in
set_option maxHeartbeats 4000000 in
theorem walk_gt (a b : Int) (a0 : 0 ≤ a) (a1 : a < 18446744073709551616) (b0 : 0 ≤ b) (b1 : b < 18446744073709551616) (lo : Bool) (x16 x20 x24 x28 : Int) (s : Says a b false false true lo x16 x20 x24 x28) (w : World) :
    Calls Try.prog 9 #[.int .u64 a, .int .u64 b] w fun e w' => e = .returned (.bool true) ∧ Below w.heap.size w w' := by
  have hne : (a != b) = true := s.n
  have heq := s.e
  have s1 := s.s1
  have s2 := s.s2
  have hlo : (lo == !lo) = false := by cases lo <;> rfl
  have S := Lib.hid s
  clear s
  go_enter Try.func9, Try.ntmps9
  go_wp2_with fail
  refine (cond_is _ _ _ _ S.out.c0 a0 a1 b0 b1 (Grew.refl w)).mono ?_
  rintro e w1 ⟨rfl, g1⟩
  go_wp2_with fail
  refine (cond_is _ _ _ _ S.out.c1 a0 a1 b0 b1 g1).mono ?_
  rintro e w2 ⟨rfl, g2⟩
  simp only [Bool.not_true, Bool.not_false]
  go_wp2_with fail
  refine (cond_is _ _ _ _ S.out.c4 a0 a1 b0 b1 g2).mono ?_
  rintro e w3 ⟨rfl, g3⟩
  go_wp2_with fail
  refine (cond_is _ _ _ _ S.out.c5 a0 a1 b0 b1 g3).mono ?_
  rintro e w4 ⟨rfl, g4⟩
  simp only [Bool.not_true, Bool.not_false]
  go_wp2_with fail
  refine (cond_is _ _ _ _ S.out.c6 a0 a1 b0 b1 g4).mono ?_
  rintro e w5 ⟨rfl, g5⟩
  go_wp2_with fail
  refine (cond_is _ _ _ _ S.out.c7 a0 a1 b0 b1 g5).mono ?_
  rintro e w6 ⟨rfl, g6⟩
  go_wp2_with fail
  refine (cond_is _ _ _ _ S.out.c4 a0 a1 b0 b1 g6).mono ?_
  rintro e w7 ⟨rfl, g7⟩
  go_wp2_with fail
  refine (cond_is _ _ _ _ S.out.c4' b0 b1 a0 a1 g7).mono ?_
  rintro e w8 ⟨rfl, g8⟩
  go_wp2_with fail
  refine (cond_is _ _ _ _ S.out.c0 a0 a1 b0 b1 g8).mono ?_
  rintro e w9 ⟨rfl, g9⟩
  go_wp2_with fail
  refine (Amo_is _ _ _ _ _ S.out.m16 a0 a1 b0 b1 g9).mono ?_
  rintro e w10 ⟨rfl, g10⟩
  go_wp2_with fail
  refine (Amo_is _ _ _ _ _ S.out.m20 a0 a1 b0 b1 g10).mono ?_
  rintro e w11 ⟨rfl, g11⟩
  go_wp2_with fail
  refine (Amo_is _ _ _ _ _ S.out.m24 a0 a1 b0 b1 g11).mono ?_
  rintro e w12 ⟨rfl, g12⟩
  go_wp2_with fail
  refine (Amo_is _ _ _ _ _ S.out.m28 a0 a1 b0 b1 g12).mono ?_
  rintro e w13 ⟨rfl, g13⟩
  go_wp2_with fail
  refine (heads_c g13).mono ?_
  rintro e w99 ⟨rfl, g99⟩
  go_wp2_with fail
  go_ret
  exact ⟨rfl, g99⟩
theorem walk (a : Int) (ha : 0 ≤ a ∧ a < 18446744073709551616) (b : Int) (hb : 0 ≤ b ∧ b < 18446744073709551616) (w : World) :
    Calls Try.prog 9 #[.int .u64 a, .int .u64 b] w fun e w' => e = .returned (.bool true) ∧ Below w.heap.size w w' := by
  obtain ⟨eq, lt, gt, lo, x16, x20, x24, x28, s⟩ := says a b ha.1 ha.2 hb.1 hb.2
  have ho := s.o
  cases eq <;> cases lt <;> cases gt <;> simp only [Bool.or_false, Bool.or_true, Bool.or_self, Bool.not_true, Bool.not_false, reduceCtorEq] at ho
  · exact walk_gt a b ha.1 ha.2 hb.1 hb.2 _ _ _ _ _ s w
  · exact walk_lt a b ha.1 ha.2 hb.1 hb.2 _ _ _ _ _ _ s w
  · exact walk_lt a b ha.1 ha.2 hb.1 hb.2 _ _ _ _ _ _ s w
  · exact walk_eq a b ha.1 ha.2 hb.1 hb.2 _ _ _ _ _ s w
set_option maxRecDepth 100000 in
theorem lifted (os : Os) (started : os.Started) (H : Type) (enc : TypeId × Value → H) :
    ReturnsInHanded {} Try.checked os 9 .any (Rows.aluTurnsSpec.pre6 enc Try.prog Try.f9 Rows.aluTurnsRow.domain false) (Rows.aluTurnsSpec.post enc Try.prog Try.f9 false true false false) := by
  refine returnsInHanded_of_change (C := Try.checked) own started (by kernel_rfl) Try.func9
    (ChangeSpec.witness6 (enc := enc) (C := Try.checked) false ⟨#[], #[.int .u64 0, .int .u64 0], []⟩ 8 (by kernel_rfl) (by kernel_rfl) (by kernel_rfl) (by kernel_rfl)) ?_
  intro W base args ds gs before hval0 hW _ _
  have hval : ∀ (j : Nat) t v, Try.f9.params[j]? = some t → args[j]? = some v → Value.okWide Try.prog W .any base t v := hval0
  have hW' := hW
  obtain ⟨p, q, hA0, hV, rfl, hfz, hnd⟩ := hW
  have hA : DataW.TrodAll enc Try.prog W 0 (fun _ => true) true Try.f9.params.toList args.toList ds p := hA0
  rw [Try.params9] at hA hval
  obtain ⟨v0, vs0, d0, ds0, p0, q0, hargs, rfl, rfl, h0, r'0⟩ := trodAll_cons hA
  obtain ⟨v1, vs1, d1, ds1, p1, q1, rfl, rfl, rfl, h1, r'1⟩ := trodAll_cons r'0
  obtain ⟨rfl, rfl, rfl⟩ := trodAll_nil r'1
  obtain rfl : args = #[v0, v1] := by cases args; simp_all
  obtain ⟨a0, rfl, rfl, rfl, w0⟩ := open_int Try.underlying24 (hval 0 24 v0 rfl rfl) h0
  obtain ⟨a1, rfl, rfl, rfl, w1⟩ := open_int Try.underlying24 (hval 1 24 v1 rfl rfl) h1
  refine (walk a0 (wf_u64 w0) a1 (wf_u64 w1) W).mono fun e W' ⟨he, hb⟩ => ?_
  subst he
  exact ⟨_, rfl, law_post hW' rfl rfl laid (by kernel_rfl) rfl Try.underlying4 hb⟩

theorem over : Rows.aluTurnsRow.holds Try.pinned (OpenSpec.ofChange Rows.aluTurnsSpec) :=
  OpenClaim.holds_of_wide 9 Try.f9 rfl rfl rfl rfl rfl rfl rfl ⟨rfl, rfl, rfl, rfl, rfl⟩ rfl rfl rfl rfl rfl (by kernel_rfl) Try.func9 (by kernel_rfl)
    (of_decide_eq_true (by kernel_rfl)) (by unfold Func.isWrapper; first | (rw [if_pos (by decide +kernel)]; kernel_rfl) | (rw [if_neg (by decide +kernel)]; exact ⟨rfl, rfl⟩))
    (fun os started H enc _ => lifted os started H enc)

theorem proved : Rows.AluTurnsSaid := over
#print axioms proved
end Go.Proofs.Ytgekmhcekkmdhaa.aluTurns
