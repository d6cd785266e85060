/-
  Contracts of package alu: Amo, Cond; and the document's own.
-/
import Derived.Test.YtgekmhcekkmdhaaAluB
set_option linter.unusedVariables false
set_option linter.unusedSimpArgs false
namespace Go.Proofs.Ytgekmhcekkmdhaa
open Go.RowKit

/-! ### What these answer -/
def pickV (x y : Int) (g : Bool) : Int := if decide (y < x) = g then x else y
def amoPV (f a b : Int) : Int :=
  if f = 0 then addV a b else if f = 1 then b else if f = 4 then xorV a b else if f = 8 then orV a b else if f = 12 then andV a b
  else if f = 16 then IntKind.u64.wrap (pickV (wrap64 a) (wrap64 b) false) else if f = 20 then IntKind.u64.wrap (pickV (wrap64 a) (wrap64 b) true)
  else if f = 24 then pickV a b false else if f = 28 then pickV a b true else a
def condV (f a b : Int) : Bool :=
  if f = 0 then a == b else if f = 1 then a != b else if f = 4 then decide (wrap64 a < wrap64 b) else if f = 5 then decide (wrap64 b ≤ wrap64 a)
  else if f = 6 then decide (a < b) else if f = 7 then decide (b ≤ a) else false
def AmoV (f : Int) (word : Bool) (a b : Int) : Int := if word = true then fieldV (amoPV f (sextV a 32) (sextV b 32)) 31 0 else amoPV f a b
/-- The document's. -/
def negV (a : Int) : Bool := decide (9223372036854775808 ≤ a)
def lessV (a b : Int) : Bool := decide (bits .xor .u64 a 9223372036854775808 < bits .xor .u64 b 9223372036854775808)
def condR (f a b : Int) : Bool :=
  if f = 0 then a == b else if f = 1 then a != b else if f = 4 then lessV a b else if f = 5 then !lessV a b
  else if f = 6 then decide (a < b) else if f = 7 then decide (b ≤ a) else false
def amoR (f a b : Int) : Int :=
  if f = 0 then addV a b else if f = 1 then b else if f = 4 then xorV a b else if f = 8 then orV a b else if f = 12 then andV a b
  else if f = 16 then (if lessV b a = true then b else a) else if f = 20 then (if lessV a b = true then b else a)
  else if f = 24 then (if b < a then b else a) else if f = 28 then (if a < b then b else a) else a
def AmoR (f : Int) (word : Bool) (a b : Int) : Int := if word = true then amoR f (sextV a 32) (sextV b 32) % 4294967296 else amoR f a b
theorem pick_int64 (x y : Int) (g : Bool) (w : World) : Calls Try.prog 89 #[.int .i64 x, .int .i64 y, .bool g] w fun e w' => e = .returned (.int .i64 (pickV x y g)) ∧ w' = w := by
  unfold pickV
  by_cases h : y < x
  all_goals
    cases g
    all_goals
      simp only [h, decide_true, decide_false, if_true, if_false, reduceCtorEq]
      go_enter Try.func89, Try.ntmps89
      go_wp2
      go_ret
      exact ⟨rfl, rfl⟩
theorem pick_uint64 (x y : Int) (g : Bool) (w : World) : Calls Try.prog 90 #[.int .u64 x, .int .u64 y, .bool g] w fun e w' => e = .returned (.int .u64 (pickV x y g)) ∧ w' = w := by
  unfold pickV
  by_cases h : y < x
  all_goals
    cases g
    all_goals
      simp only [h, decide_true, decide_false, if_true, if_false, reduceCtorEq]
      go_enter Try.func90, Try.ntmps90
      go_wp2
      go_ret
      exact ⟨rfl, rfl⟩
theorem wrap64_lt (a : Int) : -9223372036854775808 ≤ wrap64 a ∧ wrap64 a ≤ 9223372036854775807 := by unfold wrap64; omega
set_option maxHeartbeats 1000000 in
theorem amo_c (f : Int) (a b : Int) (a0 : 0 ≤ a) (a1 : a < 18446744073709551616) (b0 : 0 ≤ b) (b1 : b < 18446744073709551616) {W w : World} (hg : Grew W w) :
    Calls Try.prog 39 #[pr a b, .int .i64 f] w fun e w' => e = .returned (.int .u64 (amoPV f a b)) ∧ Grew W w' := by
  by_cases h0 : f = 0
  · subst h0
    rw [show amoPV 0 a b = addV a b by simp [amoPV]]
    go_enter Try.func39, Try.ntmps39
    go_wp2_with fail
    refine (m_add a b a0 a1 b0 b1 (hg.alloc _)).mono ?_
    rintro e w1 ⟨rfl, g1⟩
    go_wp2_with fail
    go_ret
    exact ⟨rfl, g1⟩
  · skip
    by_cases h1 : f = 1
    · subst h1
      rw [show amoPV 1 a b = b by simp [amoPV]]
      go_enter Try.func39, Try.ntmps39
      go_wp2_with fail
      go_ret
      exact ⟨rfl, hg.alloc _⟩
    · skip
      by_cases h4 : f = 4
      · subst h4
        rw [show amoPV 4 a b = xorV a b by simp [amoPV]]
        go_enter Try.func39, Try.ntmps39
        go_wp2_with fail
        refine (m_xor a b a0 a1 b0 b1 (hg.alloc _)).mono ?_
        rintro e w1 ⟨rfl, g1⟩
        go_wp2_with fail
        go_ret
        exact ⟨rfl, g1⟩
      · skip
        by_cases h8 : f = 8
        · subst h8
          rw [show amoPV 8 a b = orV a b by simp [amoPV]]
          go_enter Try.func39, Try.ntmps39
          go_wp2_with fail
          refine (m_or a b a0 a1 b0 b1 (hg.alloc _)).mono ?_
          rintro e w1 ⟨rfl, g1⟩
          go_wp2_with fail
          go_ret
          exact ⟨rfl, g1⟩
        · skip
          by_cases h12 : f = 12
          · subst h12
            rw [show amoPV 12 a b = andV a b by simp [amoPV]]
            go_enter Try.func39, Try.ntmps39
            go_wp2_with fail
            refine (m_and a b a0 a1 b0 b1 (hg.alloc _)).mono ?_
            rintro e w1 ⟨rfl, g1⟩
            go_wp2_with fail
            go_ret
            exact ⟨rfl, g1⟩
          · skip
            by_cases h16 : f = 16
            · subst h16
              rw [show amoPV 16 a b = IntKind.u64.wrap (pickV (wrap64 a) (wrap64 b) false) by simp [amoPV]]
              go_enter Try.func39, Try.ntmps39
              go_wp2_with fail
              refine (pick_int64 _ _ _ _).mono ?_
              rintro e w1 ⟨rfl, h1⟩
              obtain rfl := h1.symm
              go_wp2_with fail
              go_ret
              exact ⟨rfl, hg.alloc _⟩
            · skip
              by_cases h20 : f = 20
              · subst h20
                rw [show amoPV 20 a b = IntKind.u64.wrap (pickV (wrap64 a) (wrap64 b) true) by simp [amoPV]]
                go_enter Try.func39, Try.ntmps39
                go_wp2_with fail
                refine (pick_int64 _ _ _ _).mono ?_
                rintro e w1 ⟨rfl, h1⟩
                obtain rfl := h1.symm
                go_wp2_with fail
                go_ret
                exact ⟨rfl, hg.alloc _⟩
              · skip
                by_cases h24 : f = 24
                · subst h24
                  rw [show amoPV 24 a b = pickV a b false by simp [amoPV]]
                  go_enter Try.func39, Try.ntmps39
                  go_wp2_with fail
                  refine (pick_uint64 _ _ _ _).mono ?_
                  rintro e w1 ⟨rfl, h1⟩
                  obtain rfl := h1.symm
                  go_wp2_with fail
                  go_ret
                  exact ⟨rfl, hg.alloc _⟩
                · skip
                  by_cases h28 : f = 28
                  · subst h28
                    rw [show amoPV 28 a b = pickV a b true by simp [amoPV]]
                    go_enter Try.func39, Try.ntmps39
                    go_wp2_with fail
                    refine (pick_uint64 _ _ _ _).mono ?_
                    rintro e w1 ⟨rfl, h1⟩
                    obtain rfl := h1.symm
                    go_wp2_with fail
                    go_ret
                    exact ⟨rfl, hg.alloc _⟩
                  · skip
                    rw [show amoPV f a b = a by simp [amoPV, h0, h1, h4, h8, h12, h16, h20, h24, h28]]
                    go_enter Try.func39, Try.ntmps39
                    go_wp2_with fail
                    go_ret
                    exact ⟨rfl, hg.alloc _⟩
theorem cond_c (f : Int) (a b : Int) (a0 : 0 ≤ a) (a1 : a < 18446744073709551616) (b0 : 0 ≤ b) (b1 : b < 18446744073709551616) (w : World) :
    Calls Try.prog 19 #[.int .i64 f, .int .u64 a, .int .u64 b] w fun e w' => e = .returned (.bool (condV f a b)) ∧ w' = w := by
  by_cases h0 : f = 0
  · subst h0
    rw [show condV 0 a b = (a == b) by simp [condV]]
    go_enter Try.func19, Try.ntmps19
    go_wp2_with fail
    go_ret
    exact ⟨rfl, rfl⟩
  · skip
    by_cases h1 : f = 1
    · subst h1
      rw [show condV 1 a b = (a != b) by simp [condV]]
      go_enter Try.func19, Try.ntmps19
      go_wp2_with fail
      go_ret
      exact ⟨rfl, rfl⟩
    · skip
      by_cases h4 : f = 4
      · subst h4
        rw [show condV 4 a b = decide (wrap64 a < wrap64 b) by simp [condV]]
        go_enter Try.func19, Try.ntmps19
        go_wp2_with fail
        go_ret
        exact ⟨rfl, rfl⟩
      · skip
        by_cases h5 : f = 5
        · subst h5
          rw [show condV 5 a b = decide (wrap64 b ≤ wrap64 a) by simp [condV]]
          go_enter Try.func19, Try.ntmps19
          go_wp2_with fail
          go_ret
          exact ⟨rfl, rfl⟩
        · skip
          by_cases h6 : f = 6
          · subst h6
            rw [show condV 6 a b = decide (a < b) by simp [condV]]
            go_enter Try.func19, Try.ntmps19
            go_wp2_with fail
            go_ret
            exact ⟨rfl, rfl⟩
          · skip
            by_cases h7 : f = 7
            · subst h7
              rw [show condV 7 a b = decide (b ≤ a) by simp [condV]]
              go_enter Try.func19, Try.ntmps19
              go_wp2_with fail
              go_ret
              exact ⟨rfl, rfl⟩
            · skip
              rw [show condV f a b = false by simp [condV, h0, h1, h4, h5, h6, h7]]
              go_enter Try.func19, Try.ntmps19
              go_wp2_with fail
              go_ret
              exact ⟨rfl, rfl⟩
theorem neg_c (a : Int) (w : World) : Calls Try.prog 23 #[.int .u64 a] w fun e w' => e = .returned (.bool (negV a)) ∧ w' = w := by
  go_enter Try.func23, Try.ntmps23
  go_wp2_with fail
  go_ret
  exact ⟨rfl, rfl⟩
theorem less_c (a b : Int) (a0 : 0 ≤ a) (a1 : a < 18446744073709551616) (b0 : 0 ≤ b) (b1 : b < 18446744073709551616) (w : World) : Calls Try.prog 36 #[.int .u64 a, .int .u64 b] w fun e w' => e = .returned (.bool (lessV a b)) ∧ w' = w := by
  go_enter Try.func36, Try.ntmps36
  go_wp2_with fail
  go_ret
  exact ⟨rfl, rfl⟩
theorem refCond_c (f : Int) (a b : Int) (a0 : 0 ≤ a) (a1 : a < 18446744073709551616) (b0 : 0 ≤ b) (b1 : b < 18446744073709551616) (w : World) :
    Calls Try.prog 20 #[.int .i64 f, .int .u64 a, .int .u64 b] w fun e w' => e = .returned (.bool (condR f a b)) ∧ w' = w := by
  by_cases h0 : f = 0
  · subst h0
    rw [show condR 0 a b = (a == b) by simp [condR]]
    go_enter Try.func20, Try.ntmps20
    go_wp2_with fail
    go_ret
    exact ⟨rfl, rfl⟩
  · skip
    by_cases h1 : f = 1
    · subst h1
      rw [show condR 1 a b = (a != b) by simp [condR]]
      go_enter Try.func20, Try.ntmps20
      go_wp2_with fail
      go_ret
      exact ⟨rfl, rfl⟩
    · skip
      by_cases h4 : f = 4
      · subst h4
        rw [show condR 4 a b = lessV a b by simp [condR]]
        go_enter Try.func20, Try.ntmps20
        go_wp2_with fail
        refine (less_c a b a0 a1 b0 b1 _).mono ?_
        rintro e w1 ⟨rfl, h1⟩
        obtain rfl := h1.symm
        go_wp2_with fail
        go_ret
        exact ⟨rfl, rfl⟩
      · skip
        by_cases h5 : f = 5
        · subst h5
          rw [show condR 5 a b = (!lessV a b) by simp [condR]]
          go_enter Try.func20, Try.ntmps20
          go_wp2_with fail
          refine (less_c a b a0 a1 b0 b1 _).mono ?_
          rintro e w1 ⟨rfl, h1⟩
          obtain rfl := h1.symm
          go_wp2_with fail
          go_ret
          exact ⟨rfl, rfl⟩
        · skip
          by_cases h6 : f = 6
          · subst h6
            rw [show condR 6 a b = decide (a < b) by simp [condR]]
            go_enter Try.func20, Try.ntmps20
            go_wp2_with fail
            go_ret
            exact ⟨rfl, rfl⟩
          · skip
            by_cases h7 : f = 7
            · subst h7
              rw [show condR 7 a b = decide (b ≤ a) by simp [condR]]
              go_enter Try.func20, Try.ntmps20
              go_wp2_with fail
              go_ret
              exact ⟨rfl, rfl⟩
            · skip
              rw [show condR f a b = false by simp [condR, h0, h1, h4, h5, h6, h7]]
              go_enter Try.func20, Try.ntmps20
              go_wp2_with fail
              go_ret
              exact ⟨rfl, rfl⟩
theorem sext_b (a : Int) (a0 : 0 ≤ a) (a1 : a < 18446744073709551616) : 0 ≤ sextV a 32 ∧ sextV a 32 < 18446744073709551616 := sextV_lt a 32 a0 a1
theorem pick_or (x y : Int) (g : Bool) : pickV x y g = x ∨ pickV x y g = y := by unfold pickV; split <;> simp
theorem amoPV_lt (f a b : Int) (a0 : 0 ≤ a) (a1 : a < 18446744073709551616) (b0 : 0 ≤ b) (b1 : b < 18446744073709551616) : 0 ≤ amoPV f a b ∧ amoPV f a b < 18446744073709551616 := by
  have h1 := pick_or a b false
  have h2 := pick_or a b true
  unfold amoPV
  repeat (first | exact wrap_lt _ | exact xor_lt a b a0 a1 b0 b1 | exact or_lt a b a0 a1 b0 b1 | exact and_lt a b a0 a1 b0 b1 | omega | split)
set_option maxHeartbeats 1000000 in
theorem Amo_c (f : Int) (word : Bool) (a b : Int) (a0 : 0 ≤ a) (a1 : a < 18446744073709551616) (b0 : 0 ≤ b) (b1 : b < 18446744073709551616) (w : World) :
    Calls Try.prog 21 #[.int .i64 f, .bool word, .int .u64 a, .int .u64 b] w fun e w' => e = .returned (.int .u64 (AmoV f word a b)) ∧ Grew w w' := by
  have ha := sext_b a a0 a1
  have hb := sext_b b b0 b1
  have hl := amoPV_lt f (sextV a 32) (sextV b 32) ha.1 ha.2 hb.1 hb.2
  cases word
  · rw [show AmoV f false a b = amoPV f a b by simp [AmoV]]
    go_enter Try.func21, Try.ntmps21
    go_wp2_with fail
    refine (amo_c f a b a0 a1 b0 b1 ((Grew.refl w).alloc _)).mono ?_
    rintro e w1 ⟨rfl, g1⟩
    go_wp2_with fail
    go_ret
    exact ⟨rfl, g1⟩
  · rw [show AmoV f true a b = fieldV (amoPV f (sextV a 32) (sextV b 32)) 31 0 by simp [AmoV]]
    go_enter Try.func21, Try.ntmps21
    go_wp2_with fail
    refine (p_signed a b a0 a1 b0 b1 ((Grew.refl w).alloc _)).mono ?_
    rintro e w1 ⟨rfl, g1⟩
    go_wp2_with fail
    refine (amo_c f _ _ ha.1 ha.2 hb.1 hb.2 g1).mono ?_
    rintro e w2 ⟨rfl, g2⟩
    go_wp2_with fail
    refine (low_c _ hl.1 hl.2 _).mono ?_
    rintro e w3 ⟨rfl, n, rfl⟩
    go_wp2_with fail
    go_ret
    exact ⟨rfl, g2.drewN n⟩
set_option maxHeartbeats 2000000 in
theorem refAmo_n (f : Int) (a b : Int) (a0 : 0 ≤ a) (a1 : a < 18446744073709551616) (b0 : 0 ≤ b) (b1 : b < 18446744073709551616) (w : World) :
    Calls Try.prog 22 #[.int .i64 f, .bool false, .int .u64 a, .int .u64 b] w fun e w' => e = .returned (.int .u64 (amoR f a b)) ∧ w' = w := by
  by_cases h0 : f = 0
  · subst h0
    rw [show amoR 0 a b = addV a b by simp [amoR]]
    go_enter Try.func22, Try.ntmps22
    go_wp2_with fail
    go_ret
    exact ⟨rfl, rfl⟩
  · skip
    by_cases h1 : f = 1
    · subst h1
      rw [show amoR 1 a b = b by simp [amoR]]
      go_enter Try.func22, Try.ntmps22
      go_wp2_with fail
      go_ret
      exact ⟨rfl, rfl⟩
    · skip
      by_cases h4 : f = 4
      · subst h4
        rw [show amoR 4 a b = xorV a b by simp [amoR]]
        go_enter Try.func22, Try.ntmps22
        go_wp2_with fail
        go_ret
        exact ⟨rfl, rfl⟩
      · skip
        by_cases h8 : f = 8
        · subst h8
          rw [show amoR 8 a b = orV a b by simp [amoR]]
          go_enter Try.func22, Try.ntmps22
          go_wp2_with fail
          go_ret
          exact ⟨rfl, rfl⟩
        · skip
          by_cases h12 : f = 12
          · subst h12
            rw [show amoR 12 a b = andV a b by simp [amoR]]
            go_enter Try.func22, Try.ntmps22
            go_wp2_with fail
            go_ret
            exact ⟨rfl, rfl⟩
          · skip
            by_cases h16 : f = 16
            · subst h16
              rw [show amoR 16 a b = (if lessV b a = true then b else a) by simp [amoR]]
              cases hc : lessV b a
              · rw [show (if false = true then b else a) = a by simp]
                go_enter Try.func22, Try.ntmps22
                go_wp2_with fail
                refine (less_c b a b0 b1 a0 a1 _).mono ?_
                rintro e w1 ⟨rfl, h1⟩
                obtain rfl := h1.symm
                rw [hc]
                go_wp2_with fail
                go_ret
                exact ⟨rfl, rfl⟩
              · rw [show (if true = true then b else a) = b by simp]
                go_enter Try.func22, Try.ntmps22
                go_wp2_with fail
                refine (less_c b a b0 b1 a0 a1 _).mono ?_
                rintro e w1 ⟨rfl, h1⟩
                obtain rfl := h1.symm
                rw [hc]
                go_wp2_with fail
                go_ret
                exact ⟨rfl, rfl⟩
            · skip
              by_cases h20 : f = 20
              · subst h20
                rw [show amoR 20 a b = (if lessV a b = true then b else a) by simp [amoR]]
                cases hc : lessV a b
                · rw [show (if false = true then b else a) = a by simp]
                  go_enter Try.func22, Try.ntmps22
                  go_wp2_with fail
                  refine (less_c a b a0 a1 b0 b1 _).mono ?_
                  rintro e w1 ⟨rfl, h1⟩
                  obtain rfl := h1.symm
                  rw [hc]
                  go_wp2_with fail
                  go_ret
                  exact ⟨rfl, rfl⟩
                · rw [show (if true = true then b else a) = b by simp]
                  go_enter Try.func22, Try.ntmps22
                  go_wp2_with fail
                  refine (less_c a b a0 a1 b0 b1 _).mono ?_
                  rintro e w1 ⟨rfl, h1⟩
                  obtain rfl := h1.symm
                  rw [hc]
                  go_wp2_with fail
                  go_ret
                  exact ⟨rfl, rfl⟩
              · skip
                by_cases h24 : f = 24
                · subst h24
                  rw [show amoR 24 a b = (if b < a then b else a) by simp [amoR]]
                  by_cases hc : b < a
                  · rw [if_pos hc]
                    go_enter Try.func22, Try.ntmps22
                    go_wp2_with fail
                    go_ret
                    exact ⟨rfl, rfl⟩
                  · rw [if_neg hc]
                    go_enter Try.func22, Try.ntmps22
                    go_wp2_with fail
                    go_ret
                    exact ⟨rfl, rfl⟩
                · skip
                  by_cases h28 : f = 28
                  · subst h28
                    rw [show amoR 28 a b = (if a < b then b else a) by simp [amoR]]
                    by_cases hc : a < b
                    · rw [if_pos hc]
                      go_enter Try.func22, Try.ntmps22
                      go_wp2_with fail
                      go_ret
                      exact ⟨rfl, rfl⟩
                    · rw [if_neg hc]
                      go_enter Try.func22, Try.ntmps22
                      go_wp2_with fail
                      go_ret
                      exact ⟨rfl, rfl⟩
                  · skip
                    rw [show amoR f a b = a by simp [amoR, h0, h1, h4, h8, h12, h16, h20, h24, h28]]
                    go_enter Try.func22, Try.ntmps22
                    go_wp2_with fail
                    go_ret
                    exact ⟨rfl, rfl⟩
set_option maxHeartbeats 2000000 in
theorem refAmo_w (f : Int) (p q : Int) (p0 : 0 ≤ p) (p1 : p < 18446744073709551616) (q0 : 0 ≤ q) (q1 : q < 18446744073709551616) (a b : Int) (ha : sextV p 32 = a) (hb : sextV q 32 = b)
    (a0 : 0 ≤ a) (a1 : a < 18446744073709551616) (b0 : 0 ≤ b) (b1 : b < 18446744073709551616) (w : World) :
    Calls Try.prog 22 #[.int .i64 f, .bool true, .int .u64 p, .int .u64 q] w fun e w' => e = .returned (.int .u64 (amoR f a b % 4294967296)) ∧ w' = w := by
  have HA := Lib.hid ha
  have HB := Lib.hid hb
  clear ha hb
  by_cases h0 : f = 0
  · subst h0
    rw [show amoR 0 a b = addV a b by simp [amoR]]
    go_enter Try.func22, Try.ntmps22
    go_wp2_with fail
    refine (refSext_c p 32 p0 p1 _).mono ?_
    rintro e w1 ⟨rfl, h1⟩
    obtain rfl := h1.symm
    rw [HA.out]
    go_wp2_with fail
    refine (refSext_c q 32 q0 q1 _).mono ?_
    rintro e w1 ⟨rfl, h1⟩
    obtain rfl := h1.symm
    rw [HB.out]
    go_wp2_with fail
    go_ret
    exact ⟨ret_u64 (Int.tmod_eq_emod_of_nonneg (wrap_lt _).1), rfl⟩
  · skip
    by_cases h1 : f = 1
    · subst h1
      rw [show amoR 1 a b = b by simp [amoR]]
      go_enter Try.func22, Try.ntmps22
      go_wp2_with fail
      refine (refSext_c p 32 p0 p1 _).mono ?_
      rintro e w1 ⟨rfl, h1⟩
      obtain rfl := h1.symm
      rw [HA.out]
      go_wp2_with fail
      refine (refSext_c q 32 q0 q1 _).mono ?_
      rintro e w1 ⟨rfl, h1⟩
      obtain rfl := h1.symm
      rw [HB.out]
      go_wp2_with fail
      go_ret
      exact ⟨rfl, rfl⟩
    · skip
      by_cases h4 : f = 4
      · subst h4
        rw [show amoR 4 a b = xorV a b by simp [amoR]]
        go_enter Try.func22, Try.ntmps22
        go_wp2_with fail
        refine (refSext_c p 32 p0 p1 _).mono ?_
        rintro e w1 ⟨rfl, h1⟩
        obtain rfl := h1.symm
        rw [HA.out]
        go_wp2_with fail
        refine (refSext_c q 32 q0 q1 _).mono ?_
        rintro e w1 ⟨rfl, h1⟩
        obtain rfl := h1.symm
        rw [HB.out]
        go_wp2_with fail
        go_ret
        exact ⟨rfl, rfl⟩
      · skip
        by_cases h8 : f = 8
        · subst h8
          rw [show amoR 8 a b = orV a b by simp [amoR]]
          go_enter Try.func22, Try.ntmps22
          go_wp2_with fail
          refine (refSext_c p 32 p0 p1 _).mono ?_
          rintro e w1 ⟨rfl, h1⟩
          obtain rfl := h1.symm
          rw [HA.out]
          go_wp2_with fail
          refine (refSext_c q 32 q0 q1 _).mono ?_
          rintro e w1 ⟨rfl, h1⟩
          obtain rfl := h1.symm
          rw [HB.out]
          go_wp2_with fail
          go_ret
          exact ⟨rfl, rfl⟩
        · skip
          by_cases h12 : f = 12
          · subst h12
            rw [show amoR 12 a b = andV a b by simp [amoR]]
            go_enter Try.func22, Try.ntmps22
            go_wp2_with fail
            refine (refSext_c p 32 p0 p1 _).mono ?_
            rintro e w1 ⟨rfl, h1⟩
            obtain rfl := h1.symm
            rw [HA.out]
            go_wp2_with fail
            refine (refSext_c q 32 q0 q1 _).mono ?_
            rintro e w1 ⟨rfl, h1⟩
            obtain rfl := h1.symm
            rw [HB.out]
            go_wp2_with fail
            go_ret
            exact ⟨rfl, rfl⟩
          · skip
            by_cases h16 : f = 16
            · subst h16
              rw [show amoR 16 a b = (if lessV b a = true then b else a) by simp [amoR]]
              cases hc : lessV b a
              · rw [show (if false = true then b else a) = a by simp]
                go_enter Try.func22, Try.ntmps22
                go_wp2_with fail
                refine (refSext_c p 32 p0 p1 _).mono ?_
                rintro e w1 ⟨rfl, h1⟩
                obtain rfl := h1.symm
                rw [HA.out]
                go_wp2_with fail
                refine (refSext_c q 32 q0 q1 _).mono ?_
                rintro e w1 ⟨rfl, h1⟩
                obtain rfl := h1.symm
                rw [HB.out]
                go_wp2_with fail
                refine (less_c b a b0 b1 a0 a1 _).mono ?_
                rintro e w1 ⟨rfl, h1⟩
                obtain rfl := h1.symm
                rw [hc]
                go_wp2_with fail
                go_ret
                exact ⟨rfl, rfl⟩
              · rw [show (if true = true then b else a) = b by simp]
                go_enter Try.func22, Try.ntmps22
                go_wp2_with fail
                refine (refSext_c p 32 p0 p1 _).mono ?_
                rintro e w1 ⟨rfl, h1⟩
                obtain rfl := h1.symm
                rw [HA.out]
                go_wp2_with fail
                refine (refSext_c q 32 q0 q1 _).mono ?_
                rintro e w1 ⟨rfl, h1⟩
                obtain rfl := h1.symm
                rw [HB.out]
                go_wp2_with fail
                refine (less_c b a b0 b1 a0 a1 _).mono ?_
                rintro e w1 ⟨rfl, h1⟩
                obtain rfl := h1.symm
                rw [hc]
                go_wp2_with fail
                go_ret
                exact ⟨rfl, rfl⟩
            · skip
              by_cases h20 : f = 20
              · subst h20
                rw [show amoR 20 a b = (if lessV a b = true then b else a) by simp [amoR]]
                cases hc : lessV a b
                · rw [show (if false = true then b else a) = a by simp]
                  go_enter Try.func22, Try.ntmps22
                  go_wp2_with fail
                  refine (refSext_c p 32 p0 p1 _).mono ?_
                  rintro e w1 ⟨rfl, h1⟩
                  obtain rfl := h1.symm
                  rw [HA.out]
                  go_wp2_with fail
                  refine (refSext_c q 32 q0 q1 _).mono ?_
                  rintro e w1 ⟨rfl, h1⟩
                  obtain rfl := h1.symm
                  rw [HB.out]
                  go_wp2_with fail
                  refine (less_c a b a0 a1 b0 b1 _).mono ?_
                  rintro e w1 ⟨rfl, h1⟩
                  obtain rfl := h1.symm
                  rw [hc]
                  go_wp2_with fail
                  go_ret
                  exact ⟨rfl, rfl⟩
                · rw [show (if true = true then b else a) = b by simp]
                  go_enter Try.func22, Try.ntmps22
                  go_wp2_with fail
                  refine (refSext_c p 32 p0 p1 _).mono ?_
                  rintro e w1 ⟨rfl, h1⟩
                  obtain rfl := h1.symm
                  rw [HA.out]
                  go_wp2_with fail
                  refine (refSext_c q 32 q0 q1 _).mono ?_
                  rintro e w1 ⟨rfl, h1⟩
                  obtain rfl := h1.symm
                  rw [HB.out]
                  go_wp2_with fail
                  refine (less_c a b a0 a1 b0 b1 _).mono ?_
                  rintro e w1 ⟨rfl, h1⟩
                  obtain rfl := h1.symm
                  rw [hc]
                  go_wp2_with fail
                  go_ret
                  exact ⟨rfl, rfl⟩
              · skip
                by_cases h24 : f = 24
                · subst h24
                  rw [show amoR 24 a b = (if b < a then b else a) by simp [amoR]]
                  by_cases hc : b < a
                  · rw [if_pos hc]
                    go_enter Try.func22, Try.ntmps22
                    go_wp2_with fail
                    refine (refSext_c p 32 p0 p1 _).mono ?_
                    rintro e w1 ⟨rfl, h1⟩
                    obtain rfl := h1.symm
                    rw [HA.out]
                    go_wp2_with fail
                    refine (refSext_c q 32 q0 q1 _).mono ?_
                    rintro e w1 ⟨rfl, h1⟩
                    obtain rfl := h1.symm
                    rw [HB.out]
                    go_wp2_with fail
                    go_ret
                    exact ⟨rfl, rfl⟩
                  · rw [if_neg hc]
                    go_enter Try.func22, Try.ntmps22
                    go_wp2_with fail
                    refine (refSext_c p 32 p0 p1 _).mono ?_
                    rintro e w1 ⟨rfl, h1⟩
                    obtain rfl := h1.symm
                    rw [HA.out]
                    go_wp2_with fail
                    refine (refSext_c q 32 q0 q1 _).mono ?_
                    rintro e w1 ⟨rfl, h1⟩
                    obtain rfl := h1.symm
                    rw [HB.out]
                    go_wp2_with fail
                    go_ret
                    exact ⟨rfl, rfl⟩
                · skip
                  by_cases h28 : f = 28
                  · subst h28
                    rw [show amoR 28 a b = (if a < b then b else a) by simp [amoR]]
                    by_cases hc : a < b
                    · rw [if_pos hc]
                      go_enter Try.func22, Try.ntmps22
                      go_wp2_with fail
                      refine (refSext_c p 32 p0 p1 _).mono ?_
                      rintro e w1 ⟨rfl, h1⟩
                      obtain rfl := h1.symm
                      rw [HA.out]
                      go_wp2_with fail
                      refine (refSext_c q 32 q0 q1 _).mono ?_
                      rintro e w1 ⟨rfl, h1⟩
                      obtain rfl := h1.symm
                      rw [HB.out]
                      go_wp2_with fail
                      go_ret
                      exact ⟨rfl, rfl⟩
                    · rw [if_neg hc]
                      go_enter Try.func22, Try.ntmps22
                      go_wp2_with fail
                      refine (refSext_c p 32 p0 p1 _).mono ?_
                      rintro e w1 ⟨rfl, h1⟩
                      obtain rfl := h1.symm
                      rw [HA.out]
                      go_wp2_with fail
                      refine (refSext_c q 32 q0 q1 _).mono ?_
                      rintro e w1 ⟨rfl, h1⟩
                      obtain rfl := h1.symm
                      rw [HB.out]
                      go_wp2_with fail
                      go_ret
                      exact ⟨rfl, rfl⟩
                  · skip
                    rw [show amoR f a b = a by simp [amoR, h0, h1, h4, h8, h12, h16, h20, h24, h28]]
                    go_enter Try.func22, Try.ntmps22
                    go_wp2_with fail
                    refine (refSext_c p 32 p0 p1 _).mono ?_
                    rintro e w1 ⟨rfl, h1⟩
                    obtain rfl := h1.symm
                    rw [HA.out]
                    go_wp2_with fail
                    refine (refSext_c q 32 q0 q1 _).mono ?_
                    rintro e w1 ⟨rfl, h1⟩
                    obtain rfl := h1.symm
                    rw [HB.out]
                    go_wp2_with fail
                    go_ret
                    exact ⟨rfl, rfl⟩
theorem refAmo_c (f : Int) (word : Bool) (a b : Int) (a0 : 0 ≤ a) (a1 : a < 18446744073709551616) (b0 : 0 ≤ b) (b1 : b < 18446744073709551616) (w : World) :
    Calls Try.prog 22 #[.int .i64 f, .bool word, .int .u64 a, .int .u64 b] w fun e w' => e = .returned (.int .u64 (AmoR f word a b)) ∧ w' = w := by
  have ha := sext_b a a0 a1
  have hb := sext_b b b0 b1
  cases word
  · rw [show AmoR f false a b = amoR f a b by simp [AmoR]]
    exact refAmo_n f a b a0 a1 b0 b1 w
  · rw [show AmoR f true a b = amoR f (sextV a 32) (sextV b 32) % 4294967296 by simp [AmoR]]
    exact refAmo_w f a b a0 a1 b0 b1 _ _ rfl rfl ha.1 ha.2 hb.1 hb.2 w
end Go.Proofs.Ytgekmhcekkmdhaa
