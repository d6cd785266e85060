/-
  Contracts of package decode: the bits that say which instruction it is.
-/
import Derived.Test.YtgekmhcekkmdhaaDecL
set_option linter.unusedVariables false
set_option linter.unusedSimpArgs false
namespace Go.Proofs.Ytgekmhcekkmdhaa
open Go.RowKit

def upF (f : Int) : Nat := if 16 ≤ f then 1 else if 8 ≤ f then 32 else 0
theorem upF_le (f : Int) : upF f ≤ 32 := by
  unfold upF
  repeat (first | split | omega)
def sysN (f : Int) : Nat := if f = 0 then 115 else if f = 1 then 1048691 else if f = 2 then 270532723 else if f = 3 then 807403635 else if f = 4 then 273678451 else if f = 5 then 301990003 else 0
def fixN (c f : Int) (d : Bool) : Nat :=
  if c = 1 then 55 else if c = 2 then 23 else if c = 3 then 111 else if c = 4 then 103
  else if c = 5 then lowN f 3 * 4096 ||| 99 else if c = 6 then lowN f 3 * 4096 ||| 3 else if c = 7 then lowN f 3 * 4096 ||| 35
  else if c = 8 then lowN f 3 * 4096 ||| upF f * 33554432 ||| (if d then 27 else 19)
  else if c = 9 then lowN f 3 * 4096 ||| upF f * 33554432 ||| (if d then 59 else 51)
  else if c = 10 then lowN f 3 * 4096 ||| 15 else if c = 11 then sysN f else if c = 12 then lowN f 3 * 4096 ||| 115
  else if c = 13 then lowN f 5 * 134217728 ||| (if d then 8192 else 12288) ||| 47 else 0
theorem sysN_lt (f : Int) : sysN f < 4294967296 := by
  unfold sysN
  repeat (first | split | omega)
theorem ite_lt {p : Prop} [Decidable p] {a b n : Nat} (ha : a < n) (hb : b < n) : (if p then a else b) < n := by
  split
  · exact ha
  · exact hb
theorem fixN_lt (c f : Int) (d : Bool) : fixN c f d < 4294967296 := by
  have l3 := lowN_lt f 3
  have l5 := lowN_lt f 5
  have u := upF_le f
  have s := sysN_lt f
  have a3 : lowN f 3 * 4096 < 4294967296 := Nat.lt_of_lt_of_le (Nat.mul_lt_mul_of_pos_right l3 (by decide)) (by decide)
  have a4 : upF f * 33554432 < 4294967296 := Nat.lt_of_le_of_lt (Nat.mul_le_mul_right 33554432 u) (by decide)
  have a5 : lowN f 5 * 134217728 ≤ 4294967295 := Nat.le_trans (Nat.mul_le_mul_right 134217728 (Nat.le_of_lt_succ l5)) (by decide)
  unfold fixN
  exact ite_lt (by decide) (ite_lt (by decide) (ite_lt (by decide) (ite_lt (by decide) (ite_lt (or32_lt a3 (by decide)) (ite_lt (or32_lt a3 (by decide)) (ite_lt (or32_lt a3 (by decide))
    (ite_lt (or32_lt (or32_lt a3 a4) (by cases d <;> decide)) (ite_lt (or32_lt (or32_lt a3 a4) (by cases d <;> decide)) (ite_lt (or32_lt a3 (by decide)) (ite_lt s (ite_lt (or32_lt a3 (by decide))
    (ite_lt (or32_lt (or32_lt (Nat.lt_succ_of_le a5) (by cases d <;> decide)) (by decide)) (by decide)))))))))))))

theorem low3 (r : Int) (h0 : -9223372036854775808 ≤ r) (h1 : r ≤ 9223372036854775807) (w : World) :
    Calls Try.prog 55 #[.int .i64 r, .int .i64 3] w fun e w' => e = .returned (.int .u64 (lowN r 3 : Nat)) ∧ Drew w w' :=
  (lowest_c r 3 h0 h1 (by decide) (by decide) w).mono fun _ _ ⟨a, b⟩ => ⟨by rw [a, ← lowN_eq]; rfl, b⟩
theorem either_t (a b : Int) (w : World) : Calls Try.prog 57 #[.bool true, .int .u64 a, .int .u64 b] w fun e w' => e = .returned (.int .u64 a) ∧ w' = w := by
  go_enter Try.func57, Try.ntmps57
  go_wp2
  go_ret
  exact ⟨rfl, rfl⟩
theorem either_f (a b : Int) (w : World) : Calls Try.prog 57 #[.bool false, .int .u64 a, .int .u64 b] w fun e w' => e = .returned (.int .u64 b) ∧ w' = w := by
  go_enter Try.func57, Try.ntmps57
  go_wp2
  go_ret
  exact ⟨rfl, rfl⟩
theorem upper_c (f : Int) (w : World) : Calls Try.prog 56 #[.int .i64 f] w fun e w' => e = .returned (.int .u64 (upF f : Nat)) ∧ w' = w := by
  by_cases h : 16 ≤ f
  · rw [show upF f = 1 by unfold upF; rw [if_pos h]]
    go_enter Try.func56, Try.ntmps56
    go_wp2
    go_ret
    exact ⟨rfl, rfl⟩
  · by_cases h8 : 8 ≤ f
    · rw [show upF f = 32 by unfold upF; rw [if_neg h, if_pos h8]]
      go_enter Try.func56, Try.ntmps56
      go_wp2
      go_ret
      exact ⟨rfl, rfl⟩
    · rw [show upF f = 0 by unfold upF; rw [if_neg h, if_neg h8]]
      go_enter Try.func56, Try.ntmps56
      go_wp2
      go_ret
      exact ⟨rfl, rfl⟩
theorem sysWord_c (f : Int) (w : World) : Calls Try.prog 58 #[.int .i64 f] w fun e w' => e = .returned (.int .u64 (sysN f : Nat)) ∧ w' = w := by
  by_cases h0 : f = 0
  · subst h0
    rw [show sysN 0 = 115 from rfl]
    go_enter Try.func58, Try.ntmps58
    go_wp2
    go_ret
    exact ⟨rfl, rfl⟩
  · skip
    by_cases h1 : f = 1
    · subst h1
      rw [show sysN 1 = 1048691 from rfl]
      go_enter Try.func58, Try.ntmps58
      go_wp2
      go_ret
      exact ⟨rfl, rfl⟩
    · skip
      by_cases h2 : f = 2
      · subst h2
        rw [show sysN 2 = 270532723 from rfl]
        go_enter Try.func58, Try.ntmps58
        go_wp2
        go_ret
        exact ⟨rfl, rfl⟩
      · skip
        by_cases h3 : f = 3
        · subst h3
          rw [show sysN 3 = 807403635 from rfl]
          go_enter Try.func58, Try.ntmps58
          go_wp2
          go_ret
          exact ⟨rfl, rfl⟩
        · skip
          by_cases h4 : f = 4
          · subst h4
            rw [show sysN 4 = 273678451 from rfl]
            go_enter Try.func58, Try.ntmps58
            go_wp2
            go_ret
            exact ⟨rfl, rfl⟩
          · skip
            by_cases h5 : f = 5
            · subst h5
              rw [show sysN 5 = 301990003 from rfl]
              go_enter Try.func58, Try.ntmps58
              go_wp2
              go_ret
              exact ⟨rfl, rfl⟩
            · skip
              rw [show sysN f = 0 by unfold sysN; rw [if_neg h0, if_neg h1, if_neg h2, if_neg h3, if_neg h4, if_neg h5]]
              go_enter Try.func58, Try.ntmps58
              go_wp2
              go_ret
              exact ⟨rfl, rfl⟩
set_option maxHeartbeats 400000 in
theorem fix_1 (f r1 r2 r3 m : Int) (d : Bool) (hf0 : -9223372036854775808 ≤ f) (hf1 : f ≤ 9223372036854775807) (w : World) :
    Calls Try.prog 29 #[.agg #[.int .i64 1, .int .i64 f, .bool d, .int .i64 r1, .int .i64 r2, .int .i64 r3, .int .u64 m]] w fun e w' => e = .returned (.int .u64 (fixN 1 f d : Nat)) ∧ Grew w w' := by
  rw [show fixN 1 f d = 55 from rfl]
  have l3 := lowN_lt f 3
  have l5 := lowN_lt f 5
  have u := upF_le f
  go_enter Try.func29, Try.ntmps29
  go_wp2_with fail
  refine (low3 f hf0 hf1 _).mono ?_
  rintro e w1 ⟨rfl, n1, rfl⟩
  go_wp2_with fail
  go_ret
  exact ⟨rfl, (by repeat (first | with_reducible exact Grew.refl _ | with_reducible exact gq | with_reducible refine Grew.drewN ?_ _ | with_reducible refine Grew.alloc ?_ _))⟩
set_option maxHeartbeats 400000 in
theorem fix_2 (f r1 r2 r3 m : Int) (d : Bool) (hf0 : -9223372036854775808 ≤ f) (hf1 : f ≤ 9223372036854775807) (w : World) :
    Calls Try.prog 29 #[.agg #[.int .i64 2, .int .i64 f, .bool d, .int .i64 r1, .int .i64 r2, .int .i64 r3, .int .u64 m]] w fun e w' => e = .returned (.int .u64 (fixN 2 f d : Nat)) ∧ Grew w w' := by
  rw [show fixN 2 f d = 23 from rfl]
  have l3 := lowN_lt f 3
  have l5 := lowN_lt f 5
  have u := upF_le f
  go_enter Try.func29, Try.ntmps29
  go_wp2_with fail
  refine (low3 f hf0 hf1 _).mono ?_
  rintro e w1 ⟨rfl, n1, rfl⟩
  go_wp2_with fail
  go_ret
  exact ⟨rfl, (by repeat (first | with_reducible exact Grew.refl _ | with_reducible exact gq | with_reducible refine Grew.drewN ?_ _ | with_reducible refine Grew.alloc ?_ _))⟩
set_option maxHeartbeats 400000 in
theorem fix_3 (f r1 r2 r3 m : Int) (d : Bool) (hf0 : -9223372036854775808 ≤ f) (hf1 : f ≤ 9223372036854775807) (w : World) :
    Calls Try.prog 29 #[.agg #[.int .i64 3, .int .i64 f, .bool d, .int .i64 r1, .int .i64 r2, .int .i64 r3, .int .u64 m]] w fun e w' => e = .returned (.int .u64 (fixN 3 f d : Nat)) ∧ Grew w w' := by
  rw [show fixN 3 f d = 111 from rfl]
  have l3 := lowN_lt f 3
  have l5 := lowN_lt f 5
  have u := upF_le f
  go_enter Try.func29, Try.ntmps29
  go_wp2_with fail
  refine (low3 f hf0 hf1 _).mono ?_
  rintro e w1 ⟨rfl, n1, rfl⟩
  go_wp2_with fail
  go_ret
  exact ⟨rfl, (by repeat (first | with_reducible exact Grew.refl _ | with_reducible exact gq | with_reducible refine Grew.drewN ?_ _ | with_reducible refine Grew.alloc ?_ _))⟩
set_option maxHeartbeats 400000 in
theorem fix_4 (f r1 r2 r3 m : Int) (d : Bool) (hf0 : -9223372036854775808 ≤ f) (hf1 : f ≤ 9223372036854775807) (w : World) :
    Calls Try.prog 29 #[.agg #[.int .i64 4, .int .i64 f, .bool d, .int .i64 r1, .int .i64 r2, .int .i64 r3, .int .u64 m]] w fun e w' => e = .returned (.int .u64 (fixN 4 f d : Nat)) ∧ Grew w w' := by
  rw [show fixN 4 f d = 103 from rfl]
  have l3 := lowN_lt f 3
  have l5 := lowN_lt f 5
  have u := upF_le f
  go_enter Try.func29, Try.ntmps29
  go_wp2_with fail
  refine (low3 f hf0 hf1 _).mono ?_
  rintro e w1 ⟨rfl, n1, rfl⟩
  go_wp2_with fail
  go_ret
  exact ⟨rfl, (by repeat (first | with_reducible exact Grew.refl _ | with_reducible exact gq | with_reducible refine Grew.drewN ?_ _ | with_reducible refine Grew.alloc ?_ _))⟩
set_option maxHeartbeats 400000 in
theorem fix_5 (f r1 r2 r3 m : Int) (d : Bool) (hf0 : -9223372036854775808 ≤ f) (hf1 : f ≤ 9223372036854775807) (w : World) :
    Calls Try.prog 29 #[.agg #[.int .i64 5, .int .i64 f, .bool d, .int .i64 r1, .int .i64 r2, .int .i64 r3, .int .u64 m]] w fun e w' => e = .returned (.int .u64 (fixN 5 f d : Nat)) ∧ Grew w w' := by
  rw [show fixN 5 f d = lowN f 3 * 4096 ||| 99 from rfl]
  have l3 := lowN_lt f 3
  have l5 := lowN_lt f 5
  have u := upF_le f
  go_enter Try.func29, Try.ntmps29
  go_wp2_with fail
  refine (low3 f hf0 hf1 _).mono ?_
  rintro e w1 ⟨rfl, n1, rfl⟩
  go_wp2_with fail
  go_ret
  refine ⟨ret_u64 ?_, (by repeat (first | with_reducible exact Grew.refl _ | with_reducible exact gq | with_reducible refine Grew.drewN ?_ _ | with_reducible refine Grew.alloc ?_ _))⟩
  simp (disch := (repeat (first | omega | apply or64_lt))) only [mulc, or64, or64_lit]
set_option maxHeartbeats 400000 in
theorem fix_6 (f r1 r2 r3 m : Int) (d : Bool) (hf0 : -9223372036854775808 ≤ f) (hf1 : f ≤ 9223372036854775807) (w : World) :
    Calls Try.prog 29 #[.agg #[.int .i64 6, .int .i64 f, .bool d, .int .i64 r1, .int .i64 r2, .int .i64 r3, .int .u64 m]] w fun e w' => e = .returned (.int .u64 (fixN 6 f d : Nat)) ∧ Grew w w' := by
  rw [show fixN 6 f d = lowN f 3 * 4096 ||| 3 from rfl]
  have l3 := lowN_lt f 3
  have l5 := lowN_lt f 5
  have u := upF_le f
  go_enter Try.func29, Try.ntmps29
  go_wp2_with fail
  refine (low3 f hf0 hf1 _).mono ?_
  rintro e w1 ⟨rfl, n1, rfl⟩
  go_wp2_with fail
  go_ret
  refine ⟨ret_u64 ?_, (by repeat (first | with_reducible exact Grew.refl _ | with_reducible exact gq | with_reducible refine Grew.drewN ?_ _ | with_reducible refine Grew.alloc ?_ _))⟩
  simp (disch := (repeat (first | omega | apply or64_lt))) only [mulc, or64, or64_lit]
set_option maxHeartbeats 400000 in
theorem fix_7 (f r1 r2 r3 m : Int) (d : Bool) (hf0 : -9223372036854775808 ≤ f) (hf1 : f ≤ 9223372036854775807) (w : World) :
    Calls Try.prog 29 #[.agg #[.int .i64 7, .int .i64 f, .bool d, .int .i64 r1, .int .i64 r2, .int .i64 r3, .int .u64 m]] w fun e w' => e = .returned (.int .u64 (fixN 7 f d : Nat)) ∧ Grew w w' := by
  rw [show fixN 7 f d = lowN f 3 * 4096 ||| 35 from rfl]
  have l3 := lowN_lt f 3
  have l5 := lowN_lt f 5
  have u := upF_le f
  go_enter Try.func29, Try.ntmps29
  go_wp2_with fail
  refine (low3 f hf0 hf1 _).mono ?_
  rintro e w1 ⟨rfl, n1, rfl⟩
  go_wp2_with fail
  go_ret
  refine ⟨ret_u64 ?_, (by repeat (first | with_reducible exact Grew.refl _ | with_reducible exact gq | with_reducible refine Grew.drewN ?_ _ | with_reducible refine Grew.alloc ?_ _))⟩
  simp (disch := (repeat (first | omega | apply or64_lt))) only [mulc, or64, or64_lit]
set_option maxHeartbeats 400000 in
theorem fix_10 (f r1 r2 r3 m : Int) (d : Bool) (hf0 : -9223372036854775808 ≤ f) (hf1 : f ≤ 9223372036854775807) (w : World) :
    Calls Try.prog 29 #[.agg #[.int .i64 10, .int .i64 f, .bool d, .int .i64 r1, .int .i64 r2, .int .i64 r3, .int .u64 m]] w fun e w' => e = .returned (.int .u64 (fixN 10 f d : Nat)) ∧ Grew w w' := by
  rw [show fixN 10 f d = lowN f 3 * 4096 ||| 15 from rfl]
  have l3 := lowN_lt f 3
  have l5 := lowN_lt f 5
  have u := upF_le f
  go_enter Try.func29, Try.ntmps29
  go_wp2_with fail
  refine (low3 f hf0 hf1 _).mono ?_
  rintro e w1 ⟨rfl, n1, rfl⟩
  go_wp2_with fail
  go_ret
  refine ⟨ret_u64 ?_, (by repeat (first | with_reducible exact Grew.refl _ | with_reducible exact gq | with_reducible refine Grew.drewN ?_ _ | with_reducible refine Grew.alloc ?_ _))⟩
  simp (disch := (repeat (first | omega | apply or64_lt))) only [mulc, or64, or64_lit]
set_option maxHeartbeats 400000 in
theorem fix_12 (f r1 r2 r3 m : Int) (d : Bool) (hf0 : -9223372036854775808 ≤ f) (hf1 : f ≤ 9223372036854775807) (w : World) :
    Calls Try.prog 29 #[.agg #[.int .i64 12, .int .i64 f, .bool d, .int .i64 r1, .int .i64 r2, .int .i64 r3, .int .u64 m]] w fun e w' => e = .returned (.int .u64 (fixN 12 f d : Nat)) ∧ Grew w w' := by
  rw [show fixN 12 f d = lowN f 3 * 4096 ||| 115 from rfl]
  have l3 := lowN_lt f 3
  have l5 := lowN_lt f 5
  have u := upF_le f
  go_enter Try.func29, Try.ntmps29
  go_wp2_with fail
  refine (low3 f hf0 hf1 _).mono ?_
  rintro e w1 ⟨rfl, n1, rfl⟩
  go_wp2_with fail
  go_ret
  refine ⟨ret_u64 ?_, (by repeat (first | with_reducible exact Grew.refl _ | with_reducible exact gq | with_reducible refine Grew.drewN ?_ _ | with_reducible refine Grew.alloc ?_ _))⟩
  simp (disch := (repeat (first | omega | apply or64_lt))) only [mulc, or64, or64_lit]
set_option maxHeartbeats 400000 in
theorem fix_8t (f r1 r2 r3 m : Int) (hf0 : -9223372036854775808 ≤ f) (hf1 : f ≤ 9223372036854775807) (w : World) :
    Calls Try.prog 29 #[.agg #[.int .i64 8, .int .i64 f, .bool true, .int .i64 r1, .int .i64 r2, .int .i64 r3, .int .u64 m]] w fun e w' => e = .returned (.int .u64 (fixN 8 f true : Nat)) ∧ Grew w w' := by
  rw [show fixN 8 f true = lowN f 3 * 4096 ||| upF f * 33554432 ||| 27 from rfl]
  have l3 := lowN_lt f 3
  have l5 := lowN_lt f 5
  have u := upF_le f
  go_enter Try.func29, Try.ntmps29
  go_wp2_with fail
  refine (low3 f hf0 hf1 _).mono ?_
  rintro e w1 ⟨rfl, n1, rfl⟩
  go_wp2_with fail
  have kq := (Blk.new w #[.int .i64 8, .int .i64 f, .bool true, .int .i64 r1, .int .i64 r2, .int .i64 r3, .int .u64 m] 26 w.heap.size rfl).drewN n1
  have gq := ((Grew.refl w).alloc (.cells #[.int .i64 8, .int .i64 f, .bool true, .int .i64 r1, .int .i64 r2, .int .i64 r3, .int .u64 m] 26)).drewN n1
  generalize (w.alloc (.cells #[.int .i64 8, .int .i64 f, .bool true, .int .i64 r1, .int .i64 r2, .int .i64 r3, .int .u64 m] 26)).drewN n1 = wq at *
  have q1 : wq.cell? ⟨w.heap.size, 1, none⟩ = some (.int .i64 f) := kq.cell 1
  have q2 : wq.cell? ⟨w.heap.size, 2, none⟩ = some (.bool true) := kq.cell 2
  clear kq
  go_quiet ((first | (go_at_call 56; exact Calls.quiet_of_same (upper_c f _)) | (go_at_call 57; exact Calls.quiet_of_same (either_t _ _ _))))
  go_wp2_with fail
  go_ret
  refine ⟨ret_u64 ?_, (by repeat (first | with_reducible exact Grew.refl _ | with_reducible exact gq | with_reducible refine Grew.drewN ?_ _ | with_reducible refine Grew.alloc ?_ _))⟩
  simp (disch := (repeat (first | omega | apply or64_lt))) only [mulc, or64, or64_lit]
set_option maxHeartbeats 400000 in
theorem fix_8f (f r1 r2 r3 m : Int) (hf0 : -9223372036854775808 ≤ f) (hf1 : f ≤ 9223372036854775807) (w : World) :
    Calls Try.prog 29 #[.agg #[.int .i64 8, .int .i64 f, .bool false, .int .i64 r1, .int .i64 r2, .int .i64 r3, .int .u64 m]] w fun e w' => e = .returned (.int .u64 (fixN 8 f false : Nat)) ∧ Grew w w' := by
  rw [show fixN 8 f false = lowN f 3 * 4096 ||| upF f * 33554432 ||| 19 from rfl]
  have l3 := lowN_lt f 3
  have l5 := lowN_lt f 5
  have u := upF_le f
  go_enter Try.func29, Try.ntmps29
  go_wp2_with fail
  refine (low3 f hf0 hf1 _).mono ?_
  rintro e w1 ⟨rfl, n1, rfl⟩
  go_wp2_with fail
  have kq := (Blk.new w #[.int .i64 8, .int .i64 f, .bool false, .int .i64 r1, .int .i64 r2, .int .i64 r3, .int .u64 m] 26 w.heap.size rfl).drewN n1
  have gq := ((Grew.refl w).alloc (.cells #[.int .i64 8, .int .i64 f, .bool false, .int .i64 r1, .int .i64 r2, .int .i64 r3, .int .u64 m] 26)).drewN n1
  generalize (w.alloc (.cells #[.int .i64 8, .int .i64 f, .bool false, .int .i64 r1, .int .i64 r2, .int .i64 r3, .int .u64 m] 26)).drewN n1 = wq at *
  have q1 : wq.cell? ⟨w.heap.size, 1, none⟩ = some (.int .i64 f) := kq.cell 1
  have q2 : wq.cell? ⟨w.heap.size, 2, none⟩ = some (.bool false) := kq.cell 2
  clear kq
  go_quiet ((first | (go_at_call 56; exact Calls.quiet_of_same (upper_c f _)) | (go_at_call 57; exact Calls.quiet_of_same (either_f _ _ _))))
  go_wp2_with fail
  go_ret
  refine ⟨ret_u64 ?_, (by repeat (first | with_reducible exact Grew.refl _ | with_reducible exact gq | with_reducible refine Grew.drewN ?_ _ | with_reducible refine Grew.alloc ?_ _))⟩
  simp (disch := (repeat (first | omega | apply or64_lt))) only [mulc, or64, or64_lit]
set_option maxHeartbeats 400000 in
theorem fix_9t (f r1 r2 r3 m : Int) (hf0 : -9223372036854775808 ≤ f) (hf1 : f ≤ 9223372036854775807) (w : World) :
    Calls Try.prog 29 #[.agg #[.int .i64 9, .int .i64 f, .bool true, .int .i64 r1, .int .i64 r2, .int .i64 r3, .int .u64 m]] w fun e w' => e = .returned (.int .u64 (fixN 9 f true : Nat)) ∧ Grew w w' := by
  rw [show fixN 9 f true = lowN f 3 * 4096 ||| upF f * 33554432 ||| 59 from rfl]
  have l3 := lowN_lt f 3
  have l5 := lowN_lt f 5
  have u := upF_le f
  go_enter Try.func29, Try.ntmps29
  go_wp2_with fail
  refine (low3 f hf0 hf1 _).mono ?_
  rintro e w1 ⟨rfl, n1, rfl⟩
  go_wp2_with fail
  have kq := (Blk.new w #[.int .i64 9, .int .i64 f, .bool true, .int .i64 r1, .int .i64 r2, .int .i64 r3, .int .u64 m] 26 w.heap.size rfl).drewN n1
  have gq := ((Grew.refl w).alloc (.cells #[.int .i64 9, .int .i64 f, .bool true, .int .i64 r1, .int .i64 r2, .int .i64 r3, .int .u64 m] 26)).drewN n1
  generalize (w.alloc (.cells #[.int .i64 9, .int .i64 f, .bool true, .int .i64 r1, .int .i64 r2, .int .i64 r3, .int .u64 m] 26)).drewN n1 = wq at *
  have q1 : wq.cell? ⟨w.heap.size, 1, none⟩ = some (.int .i64 f) := kq.cell 1
  have q2 : wq.cell? ⟨w.heap.size, 2, none⟩ = some (.bool true) := kq.cell 2
  clear kq
  go_quiet ((first | (go_at_call 56; exact Calls.quiet_of_same (upper_c f _)) | (go_at_call 57; exact Calls.quiet_of_same (either_t _ _ _))))
  go_wp2_with fail
  go_ret
  refine ⟨ret_u64 ?_, (by repeat (first | with_reducible exact Grew.refl _ | with_reducible exact gq | with_reducible refine Grew.drewN ?_ _ | with_reducible refine Grew.alloc ?_ _))⟩
  simp (disch := (repeat (first | omega | apply or64_lt))) only [mulc, or64, or64_lit]
set_option maxHeartbeats 400000 in
theorem fix_9f (f r1 r2 r3 m : Int) (hf0 : -9223372036854775808 ≤ f) (hf1 : f ≤ 9223372036854775807) (w : World) :
    Calls Try.prog 29 #[.agg #[.int .i64 9, .int .i64 f, .bool false, .int .i64 r1, .int .i64 r2, .int .i64 r3, .int .u64 m]] w fun e w' => e = .returned (.int .u64 (fixN 9 f false : Nat)) ∧ Grew w w' := by
  rw [show fixN 9 f false = lowN f 3 * 4096 ||| upF f * 33554432 ||| 51 from rfl]
  have l3 := lowN_lt f 3
  have l5 := lowN_lt f 5
  have u := upF_le f
  go_enter Try.func29, Try.ntmps29
  go_wp2_with fail
  refine (low3 f hf0 hf1 _).mono ?_
  rintro e w1 ⟨rfl, n1, rfl⟩
  go_wp2_with fail
  have kq := (Blk.new w #[.int .i64 9, .int .i64 f, .bool false, .int .i64 r1, .int .i64 r2, .int .i64 r3, .int .u64 m] 26 w.heap.size rfl).drewN n1
  have gq := ((Grew.refl w).alloc (.cells #[.int .i64 9, .int .i64 f, .bool false, .int .i64 r1, .int .i64 r2, .int .i64 r3, .int .u64 m] 26)).drewN n1
  generalize (w.alloc (.cells #[.int .i64 9, .int .i64 f, .bool false, .int .i64 r1, .int .i64 r2, .int .i64 r3, .int .u64 m] 26)).drewN n1 = wq at *
  have q1 : wq.cell? ⟨w.heap.size, 1, none⟩ = some (.int .i64 f) := kq.cell 1
  have q2 : wq.cell? ⟨w.heap.size, 2, none⟩ = some (.bool false) := kq.cell 2
  clear kq
  go_quiet ((first | (go_at_call 56; exact Calls.quiet_of_same (upper_c f _)) | (go_at_call 57; exact Calls.quiet_of_same (either_f _ _ _))))
  go_wp2_with fail
  go_ret
  refine ⟨ret_u64 ?_, (by repeat (first | with_reducible exact Grew.refl _ | with_reducible exact gq | with_reducible refine Grew.drewN ?_ _ | with_reducible refine Grew.alloc ?_ _))⟩
  simp (disch := (repeat (first | omega | apply or64_lt))) only [mulc, or64, or64_lit]
set_option maxHeartbeats 400000 in
theorem fix_13t (f r1 r2 r3 m : Int) (hf0 : -9223372036854775808 ≤ f) (hf1 : f ≤ 9223372036854775807) (w : World) :
    Calls Try.prog 29 #[.agg #[.int .i64 13, .int .i64 f, .bool true, .int .i64 r1, .int .i64 r2, .int .i64 r3, .int .u64 m]] w fun e w' => e = .returned (.int .u64 (fixN 13 f true : Nat)) ∧ Grew w w' := by
  rw [show fixN 13 f true = lowN f 5 * 134217728 ||| 8192 ||| 47 by simp [fixN]]
  have l3 := lowN_lt f 3
  have l5 := lowN_lt f 5
  have u := upF_le f
  go_enter Try.func29, Try.ntmps29
  go_wp2_with fail
  refine (low3 f hf0 hf1 _).mono ?_
  rintro e w1 ⟨rfl, n1, rfl⟩
  go_wp2_with fail
  have kq := (Blk.new w #[.int .i64 13, .int .i64 f, .bool true, .int .i64 r1, .int .i64 r2, .int .i64 r3, .int .u64 m] 26 w.heap.size rfl).drewN n1
  have gq := ((Grew.refl w).alloc (.cells #[.int .i64 13, .int .i64 f, .bool true, .int .i64 r1, .int .i64 r2, .int .i64 r3, .int .u64 m] 26)).drewN n1
  generalize (w.alloc (.cells #[.int .i64 13, .int .i64 f, .bool true, .int .i64 r1, .int .i64 r2, .int .i64 r3, .int .u64 m] 26)).drewN n1 = wq at *
  have q1 : wq.cell? ⟨w.heap.size, 1, none⟩ = some (.int .i64 f) := kq.cell 1
  have q2 : wq.cell? ⟨w.heap.size, 2, none⟩ = some (.bool true) := kq.cell 2
  clear kq
  go_quiet ((first | (go_at_call 55; exact Calls.quiet_of (low5 f hf0 hf1 _)) | (go_at_call 57; exact Calls.quiet_of_same (either_t _ _ _))))
  go_wp2_with fail
  go_ret
  refine ⟨ret_u64 ?_, (by repeat (first | with_reducible exact Grew.refl _ | with_reducible exact gq | with_reducible refine Grew.drewN ?_ _ | with_reducible refine Grew.alloc ?_ _))⟩
  simp (disch := (repeat (first | omega | apply or64_lt))) only [mulc, or64, or64_lit]
set_option maxHeartbeats 400000 in
theorem fix_13f (f r1 r2 r3 m : Int) (hf0 : -9223372036854775808 ≤ f) (hf1 : f ≤ 9223372036854775807) (w : World) :
    Calls Try.prog 29 #[.agg #[.int .i64 13, .int .i64 f, .bool false, .int .i64 r1, .int .i64 r2, .int .i64 r3, .int .u64 m]] w fun e w' => e = .returned (.int .u64 (fixN 13 f false : Nat)) ∧ Grew w w' := by
  rw [show fixN 13 f false = lowN f 5 * 134217728 ||| 12288 ||| 47 by simp [fixN]]
  have l3 := lowN_lt f 3
  have l5 := lowN_lt f 5
  have u := upF_le f
  go_enter Try.func29, Try.ntmps29
  go_wp2_with fail
  refine (low3 f hf0 hf1 _).mono ?_
  rintro e w1 ⟨rfl, n1, rfl⟩
  go_wp2_with fail
  have kq := (Blk.new w #[.int .i64 13, .int .i64 f, .bool false, .int .i64 r1, .int .i64 r2, .int .i64 r3, .int .u64 m] 26 w.heap.size rfl).drewN n1
  have gq := ((Grew.refl w).alloc (.cells #[.int .i64 13, .int .i64 f, .bool false, .int .i64 r1, .int .i64 r2, .int .i64 r3, .int .u64 m] 26)).drewN n1
  generalize (w.alloc (.cells #[.int .i64 13, .int .i64 f, .bool false, .int .i64 r1, .int .i64 r2, .int .i64 r3, .int .u64 m] 26)).drewN n1 = wq at *
  have q1 : wq.cell? ⟨w.heap.size, 1, none⟩ = some (.int .i64 f) := kq.cell 1
  have q2 : wq.cell? ⟨w.heap.size, 2, none⟩ = some (.bool false) := kq.cell 2
  clear kq
  go_quiet ((first | (go_at_call 55; exact Calls.quiet_of (low5 f hf0 hf1 _)) | (go_at_call 57; exact Calls.quiet_of_same (either_f _ _ _))))
  go_wp2_with fail
  go_ret
  refine ⟨ret_u64 ?_, (by repeat (first | with_reducible exact Grew.refl _ | with_reducible exact gq | with_reducible refine Grew.drewN ?_ _ | with_reducible refine Grew.alloc ?_ _))⟩
  simp (disch := (repeat (first | omega | apply or64_lt))) only [mulc, or64, or64_lit]
set_option maxHeartbeats 400000 in
theorem fix_11 (f r1 r2 r3 m : Int) (d : Bool) (hf0 : -9223372036854775808 ≤ f) (hf1 : f ≤ 9223372036854775807) (w : World) :
    Calls Try.prog 29 #[.agg #[.int .i64 11, .int .i64 f, .bool d, .int .i64 r1, .int .i64 r2, .int .i64 r3, .int .u64 m]] w fun e w' => e = .returned (.int .u64 (fixN 11 f d : Nat)) ∧ Grew w w' := by
  rw [show fixN 11 f d = sysN f from rfl]
  have l3 := lowN_lt f 3
  have l5 := lowN_lt f 5
  have u := upF_le f
  go_enter Try.func29, Try.ntmps29
  go_wp2_with fail
  refine (low3 f hf0 hf1 _).mono ?_
  rintro e w1 ⟨rfl, n1, rfl⟩
  go_wp2_with fail
  refine (sysWord_c f _).mono ?_
  rintro e w2 ⟨rfl, h2⟩
  obtain rfl := h2.symm
  go_wp2_with fail
  go_ret
  exact ⟨rfl, (by repeat (first | with_reducible exact Grew.refl _ | with_reducible exact gq | with_reducible refine Grew.drewN ?_ _ | with_reducible refine Grew.alloc ?_ _))⟩
set_option maxHeartbeats 400000 in
theorem fix_no (c f r1 r2 r3 m : Int) (d : Bool) (hf0 : -9223372036854775808 ≤ f) (hf1 : f ≤ 9223372036854775807) (h1 : ¬ c = 1) (h2 : ¬ c = 2) (h3 : ¬ c = 3) (h4 : ¬ c = 4) (h5 : ¬ c = 5) (h6 : ¬ c = 6) (h7 : ¬ c = 7) (h8 : ¬ c = 8) (h9 : ¬ c = 9) (h10 : ¬ c = 10) (h11 : ¬ c = 11) (h12 : ¬ c = 12) (h13 : ¬ c = 13) (w : World) :
    Calls Try.prog 29 #[.agg #[.int .i64 c, .int .i64 f, .bool d, .int .i64 r1, .int .i64 r2, .int .i64 r3, .int .u64 m]] w fun e w' => e = .returned (.int .u64 (fixN c f d : Nat)) ∧ Grew w w' := by
  rw [show fixN c f d = 0 by unfold fixN; rw [if_neg h1, if_neg h2, if_neg h3, if_neg h4, if_neg h5, if_neg h6, if_neg h7, if_neg h8, if_neg h9, if_neg h10, if_neg h11, if_neg h12, if_neg h13]]
  have l3 := lowN_lt f 3
  have l5 := lowN_lt f 5
  have u := upF_le f
  go_enter Try.func29, Try.ntmps29
  go_wp2_with fail
  refine (low3 f hf0 hf1 _).mono ?_
  rintro e w1 ⟨rfl, n1, rfl⟩
  go_wp2_with fail
  go_ret
  exact ⟨rfl, (by repeat (first | with_reducible exact Grew.refl _ | with_reducible exact gq | with_reducible refine Grew.drewN ?_ _ | with_reducible refine Grew.alloc ?_ _))⟩
set_option maxHeartbeats 400000 in
theorem fixed_c (c f r1 r2 r3 m : Int) (d : Bool) (hf0 : -9223372036854775808 ≤ f) (hf1 : f ≤ 9223372036854775807) (w : World) :
    Calls Try.prog 29 #[.agg #[.int .i64 c, .int .i64 f, .bool d, .int .i64 r1, .int .i64 r2, .int .i64 r3, .int .u64 m]] w fun e w' => e = .returned (.int .u64 (fixN c f d : Nat)) ∧ Grew w w' := by
  by_cases h1 : c = 1
  · subst h1
    exact fix_1 f r1 r2 r3 m d hf0 hf1 w
  · skip
    by_cases h2 : c = 2
    · subst h2
      exact fix_2 f r1 r2 r3 m d hf0 hf1 w
    · skip
      by_cases h3 : c = 3
      · subst h3
        exact fix_3 f r1 r2 r3 m d hf0 hf1 w
      · skip
        by_cases h4 : c = 4
        · subst h4
          exact fix_4 f r1 r2 r3 m d hf0 hf1 w
        · skip
          by_cases h5 : c = 5
          · subst h5
            exact fix_5 f r1 r2 r3 m d hf0 hf1 w
          · skip
            by_cases h6 : c = 6
            · subst h6
              exact fix_6 f r1 r2 r3 m d hf0 hf1 w
            · skip
              by_cases h7 : c = 7
              · subst h7
                exact fix_7 f r1 r2 r3 m d hf0 hf1 w
              · skip
                by_cases h8 : c = 8
                · subst h8
                  cases d
                  · exact fix_8f f r1 r2 r3 m hf0 hf1 w
                  · exact fix_8t f r1 r2 r3 m hf0 hf1 w
                · skip
                  by_cases h9 : c = 9
                  · subst h9
                    cases d
                    · exact fix_9f f r1 r2 r3 m hf0 hf1 w
                    · exact fix_9t f r1 r2 r3 m hf0 hf1 w
                  · skip
                    by_cases h10 : c = 10
                    · subst h10
                      exact fix_10 f r1 r2 r3 m d hf0 hf1 w
                    · skip
                      by_cases h11 : c = 11
                      · subst h11
                        exact fix_11 f r1 r2 r3 m d hf0 hf1 w
                      · skip
                        by_cases h12 : c = 12
                        · subst h12
                          exact fix_12 f r1 r2 r3 m d hf0 hf1 w
                        · skip
                          by_cases h13 : c = 13
                          · subst h13
                            cases d
                            · exact fix_13f f r1 r2 r3 m hf0 hf1 w
                            · exact fix_13t f r1 r2 r3 m hf0 hf1 w
                          · skip
                            exact fix_no c f r1 r2 r3 m d hf0 hf1 h1 h2 h3 h4 h5 h6 h7 h8 h9 h10 h11 h12 h13 w
end Go.Proofs.Ytgekmhcekkmdhaa
