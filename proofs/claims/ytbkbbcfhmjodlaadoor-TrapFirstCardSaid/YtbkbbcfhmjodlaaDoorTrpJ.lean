/-
  The document's way into a trap in one contract (its answer is package trap's); registers compared; what must come at any rate (heads).
-/
import Derived.Test.YtbkbbcfhmjodlaaDoorTrpI
set_option linter.unusedVariables false
set_option linter.unusedSimpArgs false
namespace Go.Proofs.YtbkbbcfhmjodlaaDoor
open Go.RowKit

theorem cs_eql (c : Nat → Int) (w : World) : (binOp .eql 24 (csV c) (csV c)).run Tryd.prog w = .ok (.bool true) w := by
  have hu := Tryd.underlying24
  have hp : Tryd.prog.stoodInHeld 24 = false := by kernel_rfl
  rw [run_eql_struct, run_equalIn_agg w 9999 _ _ _ (by simp [Program.fieldsOf, hu]) hp]
  simp only [Program.fieldsOf, hu]
  simp [Op.eqFields, go_sem, csA]
theorem upd_swap (c : Nat → Int) (i j : Nat) (a b : Int) (h : i ≠ j) : upd (upd c i a) j b = upd (upd c j b) i a := by
  funext k
  unfold upd
  by_cases h1 : k = i
  · subst h1
    rw [if_neg h, if_pos rfl, if_pos rfl]
  · by_cases h2 : k = j
    · subst h2
      rw [if_pos rfl, if_neg h1, if_pos rfl]
    · rw [if_neg h2, if_neg h1, if_neg h1, if_neg h2]
theorem upd_last (c : Nat → Int) (i j l : Nat) (y x t r : Int) (hi : i ≠ 0) (hj : j ≠ 0) (hl : l ≠ 0) : upd (upd (upd (upd c i y) j x) l t) 0 r = upd (upd (upd (upd c 0 r) i y) j x) l t := by
  rw [upd_swap _ l 0 _ _ hl, upd_swap _ j 0 _ _ hj, upd_swap _ i 0 _ _ hi]
theorem entM_two (s : Nat) (p : Int) (h : (IntKind.u64.wrap p).toNat % 4 = 2) : entM s p = ndn (setN (setN s 7 (bitN s 3)) 3 0) 6144 := by
  unfold entM whN
  rw [if_pos h, Nat.zero_mul, Nat.or_zero]
theorem entM_not (s : Nat) (p : Int) (h : (IntKind.u64.wrap p).toNat % 4 ≠ 2) : entM s p = ndn (setN (setN s 7 (bitN s 3)) 3 0) 6144 ||| (IntKind.u64.wrap p).toNat % 4 * 2048 := by
  unfold entM whN
  rw [if_neg h]

theorem enter_d (c : Nat → Int) (hc : csOk c) (p pc cause : Int) (irq : Bool) (tval : Int) {W w : World} (hg : Grew W w) :
    Calls Tryd.prog 11 #[csV c, .int .i64 p, .int .u64 pc, .int .i64 cause, .bool irq, .int .u64 tval] w fun e w' => e = .returned (entV c p pc cause irq tval) ∧ Grew W w' := by
  unfold entV entC entP entA
  have pb := bit_is (delN c irq) (kN cause % 64) _ rfl
  have hp0 : 0 ≤ IntKind.u64.wrap p := by rw [wrap_u64]; omega
  cases h : toS c p cause irq
  · simp only [Bool.false_eq_true, if_false]
    rw [← upd_last _ 8 7 9 _ _ _ _ (by decide) (by decide) (by decide)]
    unfold toS at h
    cases p1 : decide (p ≤ 1)
    · by_cases h2 : (IntKind.u64.wrap p).toNat % 4 = 2
      · rw [entM_two _ _ h2]
        cases irq
        · exact ent_m_two c (stN c) (delN c false) (kN cause) 2 p pc cause tval _ (stN_lt hc) (stN_is hc) (delN_lt hc false) (delN_is hc false) (kN_is cause) (kN_lt cause) (by decide) (by omega) rfl (hc 5).1 (hc 5).2 p1 _ rfl rfl hg
        · exact ent_m_irq_two c (stN c) (delN c true) (kN cause) 2 p pc cause tval _ (stN_lt hc) (stN_is hc) (delN_lt hc true) (delN_is hc true) (kN_is cause) (kN_lt cause) (by decide) (by omega) rfl (hc 5).1 (hc 5).2 p1 _ rfl rfl hg
      · rw [entM_not _ _ h2]
        have q2 : (((((IntKind.u64.wrap p).toNat % 4 : Nat)) : Int) == 2) = false := by rw [beq_eq_false_iff_ne]; omega
        cases irq
        · exact ent_m c (stN c) (delN c false) (kN cause) ((IntKind.u64.wrap p).toNat % 4) p pc cause tval _ (stN_lt hc) (stN_is hc) (delN_lt hc false) (delN_is hc false) (kN_is cause) (kN_lt cause) (by omega) (by omega) rfl (hc 5).1 (hc 5).2 p1 _ rfl q2 hg
        · exact ent_m_irq c (stN c) (delN c true) (kN cause) ((IntKind.u64.wrap p).toNat % 4) p pc cause tval _ (stN_lt hc) (stN_is hc) (delN_lt hc true) (delN_is hc true) (kN_is cause) (kN_lt cause) (by omega) (by omega) rfl (hc 5).1 (hc 5).2 p1 _ rfl q2 hg
    · rw [p1, Bool.true_and] at h
      rw [h] at pb
      by_cases h2 : (IntKind.u64.wrap p).toNat % 4 = 2
      · rw [entM_two _ _ h2]
        cases irq
        · exact ent_m_low_two c (stN c) (delN c false) (kN cause) 2 p pc cause tval _ (stN_lt hc) (stN_is hc) (delN_lt hc false) (delN_is hc false) (kN_is cause) (kN_lt cause) (by decide) (by omega) rfl (hc 5).1 (hc 5).2 p1 pb _ rfl rfl hg
        · exact ent_m_irq_low_two c (stN c) (delN c true) (kN cause) 2 p pc cause tval _ (stN_lt hc) (stN_is hc) (delN_lt hc true) (delN_is hc true) (kN_is cause) (kN_lt cause) (by decide) (by omega) rfl (hc 5).1 (hc 5).2 p1 pb _ rfl rfl hg
      · rw [entM_not _ _ h2]
        have q2 : (((((IntKind.u64.wrap p).toNat % 4 : Nat)) : Int) == 2) = false := by rw [beq_eq_false_iff_ne]; omega
        cases irq
        · exact ent_m_low c (stN c) (delN c false) (kN cause) ((IntKind.u64.wrap p).toNat % 4) p pc cause tval _ (stN_lt hc) (stN_is hc) (delN_lt hc false) (delN_is hc false) (kN_is cause) (kN_lt cause) (by omega) (by omega) rfl (hc 5).1 (hc 5).2 p1 pb _ rfl q2 hg
        · exact ent_m_irq_low c (stN c) (delN c true) (kN cause) ((IntKind.u64.wrap p).toNat % 4) p pc cause tval _ (stN_lt hc) (stN_is hc) (delN_lt hc true) (delN_is hc true) (kN_is cause) (kN_lt cause) (by omega) (by omega) rfl (hc 5).1 (hc 5).2 p1 pb _ rfl q2 hg
  · simp only [if_true]
    rw [← upd_last _ 13 12 14 _ _ _ _ (by decide) (by decide) (by decide)]
    unfold toS at h
    obtain ⟨p1, hb⟩ := (Bool.and_eq_true ..).mp h
    rw [hb] at pb
    have hb2 : whN p % 2 < 2 := Nat.mod_lt _ (by decide)
    have hp2 : IntKind.u64.wrap p % 2 = ((whN p % 2 : Nat) : Int) := by rw [whN_two]; omega
    cases irq
    · exact ent_s c (stN c) (delN c false) (kN cause) _ p pc cause tval _ (stN_lt hc) (stN_is hc) (delN_lt hc false) (delN_is hc false) (kN_is cause) (kN_lt cause) hb2 hp2 rfl (hc 10).1 (hc 10).2 p1 pb hg
    · exact ent_s_irq c (stN c) (delN c true) (kN cause) _ p pc cause tval _ (stN_lt hc) (stN_is hc) (delN_lt hc true) (delN_is hc true) (kN_is cause) (kN_lt cause) hb2 hp2 rfl (hc 10).1 (hc 10).2 p1 pb hg
end Go.Proofs.YtbkbbcfhmjodlaaDoor
