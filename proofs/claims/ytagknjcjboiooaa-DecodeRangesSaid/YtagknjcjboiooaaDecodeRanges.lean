/-
  The statement about Decode: registers are from 0 to 31, and immediates what their classes can have. For every word. Conditions: none.
-/
import Derived.Test.YtagknjcjboiooaaRows
import Derived.Test.YtagknjcjboiooaaDecZ
import Derived.Test.YtagknjcjboiooaaDecH
import Derived.Test.YtagknjcjboiooaaLaw
import Derived.Deep.DeepCutAuto
set_option linter.unusedVariables false
set_option linter.unusedSimpArgs false
namespace Go.Proofs.Ytagknjcjboiooaa.decodeRanges
open Go.ChangeShapes Go.WideShapes Go.ChangeAt Go.RowKit

theorem add_u64 (a b : Int) (w : World) : (binOp .add 28 (.int .u64 a) (.int .u64 b)).run Try.prog w = .ok (.int .u64 (IntKind.u64.wrap (a + b))) w := by simp [go_sem]
/-- A class, or none. -/
def Cl (k : Kd) : Prop := k = kNo ∨ (1 ≤ k.c ∧ k.c ≤ 13)
theorem Cl.on (b : Bool) (c f : Int) (d : Bool) (h1 : 1 ≤ c) (h2 : c ≤ 13) : Cl (kOn b c f d) := by
  cases b
  · exact .inl rfl
  · exact .inr ⟨h1, h2⟩
theorem Cl.at' (c f : Int) (d : Bool) (h1 : 1 ≤ c) (h2 : c ≤ 13) : Cl ⟨c, f, d⟩ := .inr ⟨h1, h2⟩
theorem Cl.ite {p : Prop} [Decidable p] {a b : Kd} (ha : Cl a) (hb : Cl b) : Cl (if p then a else b) := by
  split
  · exact ha
  · exact hb
theorem cl_imm (f g : Int) (d : Bool) : Cl (kImm f g d) := by
  unfold kImm
  exact Cl.ite (Cl.on _ _ _ _ (by decide) (by decide)) (Cl.ite (Cl.ite (Cl.at' _ _ _ (by decide) (by decide)) (Cl.on _ _ _ _ (by decide) (by decide))) (Cl.ite (Cl.at' _ _ _ (by decide) (by decide)) (Cl.on _ _ _ _ (by decide) (by decide))))
theorem cl_reg (f g : Int) (d : Bool) : Cl (kReg f g d) := by
  unfold kReg
  exact Cl.ite (Cl.on _ _ _ _ (by decide) (by decide)) (Cl.ite (Cl.on _ _ _ _ (by decide) (by decide)) (Cl.ite (Cl.on _ _ _ _ (by decide) (by decide)) (.inl rfl)))
theorem cl_sys (x : Nat) (f g : Int) : Cl (kSys x f g) := by
  unfold kSys
  exact Cl.ite (Cl.at' _ _ _ (by decide) (by decide)) (Cl.ite (Cl.at' _ _ _ (by decide) (by decide)) (Cl.ite (Cl.at' _ _ _ (by decide) (by decide)) (Cl.ite (Cl.at' _ _ _ (by decide) (by decide)) (Cl.ite (Cl.at' _ _ _ (by decide) (by decide)) (Cl.ite (Cl.on _ _ _ _ (by decide) (by decide)) (Cl.on _ _ _ _ (by decide) (by decide)))))))
theorem cl_amo (x : Nat) (f : Int) : Cl (kAmo x f) := by
  unfold kAmo
  exact Cl.ite (Cl.ite (Cl.at' _ _ _ (by decide) (by decide)) (Cl.ite (Cl.on _ _ _ _ (by decide) (by decide)) (.inl rfl))) (.inl rfl)
theorem cl_of (x : Nat) : Cl (kOf x) := by
  unfold kOf kF
  have a (c f : Int) (d : Bool) (h1 : 1 ≤ c) (h2 : c ≤ 13) := Cl.at' c f d h1 h2
  have o (b : Bool) (c f : Int) (d : Bool) (h1 : 1 ≤ c) (h2 : c ≤ 13) := Cl.on b c f d h1 h2
  exact Cl.ite (a _ _ _ (by decide) (by decide)) (Cl.ite (a _ _ _ (by decide) (by decide)) (Cl.ite (a _ _ _ (by decide) (by decide)) (Cl.ite (o _ _ _ _ (by decide) (by decide)) (Cl.ite (o _ _ _ _ (by decide) (by decide))
    (Cl.ite (o _ _ _ _ (by decide) (by decide)) (Cl.ite (o _ _ _ _ (by decide) (by decide)) (Cl.ite (cl_imm _ _ _) (Cl.ite (cl_imm _ _ _) (Cl.ite (cl_reg _ _ _) (Cl.ite (cl_reg _ _ _)
    (Cl.ite (o _ _ _ _ (by decide) (by decide)) (Cl.ite (cl_sys _ _ _) (Cl.ite (cl_amo _ _) (.inl rfl))))))))))))))

/-- A number that is less than p with its sign. -/
def Sm (m p : Nat) : Prop := m < p ∨ (18446744073709551616 - p ≤ m ∧ m < 18446744073709551616)
theorem imm_lui (c f : Int) (h : c = 1 ∨ c = 2) (x : Nat) (hx : x < 4294967296) : ∃ m : Nat, immN (shp c f) x = m ∧ m % 4096 = 0 ∧ Sm m 2147483648 := by
  have e : shp c f = ⟨true, false, false, [⟨31, 12, 12⟩], 32⟩ := by unfold shp; rw [if_pos h]
  have b : fN x 31 12 * 4096 < 4294967296 := by rw [f_31_12 x hx]; omega
  refine ⟨sxN (fN x 31 12 * 4096) 32, ?_, ?_⟩
  · rw [e]
    show sextV (orK x [⟨31, 12, 12⟩] 1 : Nat) 32 = _
    rw [or_lui, sxN_sext _ 32 (by decide) (by decide)]
  · rw [sx32 _ b]
    unfold Sm
    split <;> omega
theorem imm_jal (f : Int) (x : Nat) (hx : x < 4294967296) : ∃ m : Nat, immN (shp 3 f) x = m ∧ m % 2 = 0 ∧ Sm m 1048576 := by
  refine ⟨sxN (orK x [⟨31, 31, 20⟩, ⟨30, 21, 1⟩, ⟨20, 20, 11⟩, ⟨19, 12, 12⟩] 4) 21, ?_, ?_⟩
  · show sextV (orK x [⟨31, 31, 20⟩, ⟨30, 21, 1⟩, ⟨20, 20, 11⟩, ⟨19, 12, 12⟩] 4 : Nat) 21 = _
    rw [sxN_sext _ 21 (by decide) (by decide)]
  · rw [or_j x hx, sx21 _ (by omega)]
    unfold Sm
    split <;> omega
theorem imm_branch (f : Int) (x : Nat) (hx : x < 4294967296) : ∃ m : Nat, immN (shp 5 f) x = m ∧ m % 2 = 0 ∧ Sm m 4096 := by
  refine ⟨sxN (orK x [⟨31, 31, 12⟩, ⟨30, 25, 5⟩, ⟨11, 8, 1⟩, ⟨7, 7, 11⟩] 4) 13, ?_, ?_⟩
  · show sextV (orK x [⟨31, 31, 12⟩, ⟨30, 25, 5⟩, ⟨11, 8, 1⟩, ⟨7, 7, 11⟩] 4 : Nat) 13 = _
    rw [sxN_sext _ 13 (by decide) (by decide)]
  · rw [or_b x hx, sx13 _ (by omega)]
    unfold Sm
    split <;> omega
theorem imm_csr (f : Int) (x : Nat) (hx : x < 4294967296) : ∃ m : Nat, immN (shp 12 f) x = m ∧ m < 4096 := by
  refine ⟨fN x 31 20, ?_, by rw [f_31_20 x hx]; omega⟩
  show sextV (orK x [⟨31, 20, 0⟩] 1 : Nat) 64 = _
  rw [or_i, sextV64]
theorem imm_tw (x : Nat) (hx : x < 4294967296) : ∃ m : Nat, immN (tw 12) x = m ∧ Sm m 2048 := by
  have b : fN x 31 20 < 4096 := by rw [f_31_20 x hx]; omega
  refine ⟨sxN (fN x 31 20) 12, ?_, ?_⟩
  · show sextV (orK x [⟨31, 20, 0⟩] 1 : Nat) 12 = _
    rw [or_i, sxN_sext _ 12 (by decide) (by decide)]
  · rw [sx12 _ b]
    unfold Sm
    split <;> omega
theorem imm_rest (c f : Int) (h1 : ¬ c = 1) (h2 : ¬ c = 2) (h3 : ¬ c = 3) (h5 : ¬ c = 5) (h12 : ¬ c = 12) (x : Nat) (hx : x < 4294967296) : ∃ m : Nat, immN (shp c f) x = m ∧ Sm m 2048 := by
  have h12' : ¬ (c = 1 ∨ c = 2) := by omega
  by_cases h7 : c = 7
  · subst h7
    refine ⟨sxN (orK x [⟨31, 25, 5⟩, ⟨11, 7, 0⟩] 2) 12, ?_, ?_⟩
    · show sextV (orK x [⟨31, 25, 5⟩, ⟨11, 7, 0⟩] 2 : Nat) 12 = _
      rw [sxN_sext _ 12 (by decide) (by decide)]
    · rw [or_s x hx, sx12 _ (by omega)]
      unfold Sm
      split <;> omega
  · by_cases h46 : c = 4 ∨ c = 6
    · rw [show shp c f = tw 12 by unfold shp; rw [if_neg h12', if_neg h3, if_neg h5, if_neg h7, if_pos h46]]
      exact imm_tw x hx
    · by_cases h8 : c = 8
      · rw [show shp c f = immShp f by unfold shp; rw [if_neg h12', if_neg h3, if_neg h5, if_neg h7, if_neg h46, if_pos h8]]
        by_cases hf : f = 1 ∨ f = 5 ∨ f = 13
        · rw [show immShp f = ⟨true, true, false, [⟨25, 20, 0⟩], 64⟩ by unfold immShp; rw [if_pos hf]]
          refine ⟨fN x 25 20, ?_, .inl (by rw [f_25_20]; omega)⟩
          show sextV (orK x [⟨25, 20, 0⟩] 1 : Nat) 64 = _
          rw [or_sh, sextV64]
        · rw [show immShp f = tw 12 by unfold immShp; rw [if_neg hf]]
          exact imm_tw x hx
      · refine ⟨0, ?_, .inl (by decide)⟩
        by_cases h9 : c = 9 ∨ c = 13
        · rw [show shp c f = ⟨true, true, true, [], 0⟩ by unfold shp; rw [if_neg h12', if_neg h3, if_neg h5, if_neg h7, if_neg h46, if_neg h8, if_neg h12, if_pos h9]]
          exact sextV0 _
        · by_cases h11 : c = 11
          · rw [show shp c f = ⟨false, f == 5, f == 5, [], 0⟩ by unfold shp; rw [if_neg h12', if_neg h3, if_neg h5, if_neg h7, if_neg h46, if_neg h8, if_neg h12, if_neg h9, if_pos h11]]
            exact sextV0 _
          · rw [show shp c f = ⟨false, false, false, [], 0⟩ by unfold shp; rw [if_neg h12', if_neg h3, if_neg h5, if_neg h7, if_neg h46, if_neg h8, if_neg h12, if_neg h9, if_neg h11]]
            exact sextV0 _
theorem reg_rng (b : Bool) (x : Nat) (hi lo : Int) (h : (hi - lo + 1).toNat = 5) : regN b x hi lo ≤ 31 := by
  unfold regN
  cases b
  · simp
  · simp only [if_true]
    have : fN x hi lo < 2 ^ 5 := by unfold fN; rw [h]; exact Nat.mod_lt _ (by decide)
    omega
set_option maxRecDepth 100000 in
set_option maxHeartbeats 1000000 in
theorem lui1 (x : Nat) (f : Int) (d : Bool) (r1 r2 r3 : Nat) (m : Int) (hm0 : 0 ≤ m) (h1 : r1 ≤ 31) (h2 : r2 ≤ 31) (h3 : r3 ≤ 31) (q : Int) (hq : IntKind.u64.wrap (m + 2147483648) = q) (hql : decide (q < 4294967296) = true) (he : m % 4096 = 0) (w : World)
    (hD : ∀ w : World, Calls Try.prog 11 #[.int .u32 (x : Nat)] w fun e w' => e = .returned (.tuple #[.agg #[.int .i64 1, .int .i64 f, .bool d, .int .i64 (r1 : Nat), .int .i64 (r2 : Nat), .int .i64 (r3 : Nat), .int .u64 m], .bool true]) ∧ Grew w w') :
    Calls Try.prog 4 #[.int .u32 (x : Nat)] w fun e w' => e = .returned (.bool true) ∧ Grew w w' := by
  go_enter Try.func4, Try.ntmps4
  go_wp2_with fail
  refine (hD _).mono ?_
  rintro e w1 ⟨rfl, g1⟩
  have G := g1.alloc (.cells #[.int .i64 1, .int .i64 f, .bool d, .int .i64 (r1 : Nat), .int .i64 (r2 : Nat), .int .i64 (r3 : Nat), .int .u64 m] 30)
  go_wp2_with fail
  refine (heads_c G).mono ?_
  rintro e w2 ⟨rfl, g2⟩
  go_wp2_with fail
  go_ret
  exact ⟨rfl, g2⟩
set_option maxRecDepth 100000 in
set_option maxHeartbeats 1000000 in
theorem lui2 (x : Nat) (f : Int) (d : Bool) (r1 r2 r3 : Nat) (m : Int) (hm0 : 0 ≤ m) (h1 : r1 ≤ 31) (h2 : r2 ≤ 31) (h3 : r3 ≤ 31) (q : Int) (hq : IntKind.u64.wrap (m + 2147483648) = q) (hql : decide (q < 4294967296) = true) (he : m % 4096 = 0) (w : World)
    (hD : ∀ w : World, Calls Try.prog 11 #[.int .u32 (x : Nat)] w fun e w' => e = .returned (.tuple #[.agg #[.int .i64 2, .int .i64 f, .bool d, .int .i64 (r1 : Nat), .int .i64 (r2 : Nat), .int .i64 (r3 : Nat), .int .u64 m], .bool true]) ∧ Grew w w') :
    Calls Try.prog 4 #[.int .u32 (x : Nat)] w fun e w' => e = .returned (.bool true) ∧ Grew w w' := by
  go_enter Try.func4, Try.ntmps4
  go_wp2_with fail
  refine (hD _).mono ?_
  rintro e w1 ⟨rfl, g1⟩
  have G := g1.alloc (.cells #[.int .i64 2, .int .i64 f, .bool d, .int .i64 (r1 : Nat), .int .i64 (r2 : Nat), .int .i64 (r3 : Nat), .int .u64 m] 30)
  go_wp2_with fail
  refine (heads_c G).mono ?_
  rintro e w2 ⟨rfl, g2⟩
  go_wp2_with fail
  go_ret
  exact ⟨rfl, g2⟩
set_option maxRecDepth 100000 in
set_option maxHeartbeats 1000000 in
theorem two3 (x : Nat) (f : Int) (d : Bool) (r1 r2 r3 : Nat) (m : Int) (hm0 : 0 ≤ m) (h1 : r1 ≤ 31) (h2 : r2 ≤ 31) (h3 : r3 ≤ 31) (q : Int) (hq : IntKind.u64.wrap (m + 1048576) = q) (hql : decide (q < 2097152) = true) (he : m % 2 = 0) (w : World)
    (hD : ∀ w : World, Calls Try.prog 11 #[.int .u32 (x : Nat)] w fun e w' => e = .returned (.tuple #[.agg #[.int .i64 3, .int .i64 f, .bool d, .int .i64 (r1 : Nat), .int .i64 (r2 : Nat), .int .i64 (r3 : Nat), .int .u64 m], .bool true]) ∧ Grew w w') :
    Calls Try.prog 4 #[.int .u32 (x : Nat)] w fun e w' => e = .returned (.bool true) ∧ Grew w w' := by
  go_enter Try.func4, Try.ntmps4
  go_wp2_with fail
  refine (hD _).mono ?_
  rintro e w1 ⟨rfl, g1⟩
  have G := g1.alloc (.cells #[.int .i64 3, .int .i64 f, .bool d, .int .i64 (r1 : Nat), .int .i64 (r2 : Nat), .int .i64 (r3 : Nat), .int .u64 m] 30)
  go_wp2_with fail
  refine (heads_c G).mono ?_
  rintro e w2 ⟨rfl, g2⟩
  go_wp2_with fail
  go_ret
  exact ⟨rfl, g2⟩
set_option maxRecDepth 100000 in
set_option maxHeartbeats 1000000 in
theorem two5 (x : Nat) (f : Int) (d : Bool) (r1 r2 r3 : Nat) (m : Int) (hm0 : 0 ≤ m) (h1 : r1 ≤ 31) (h2 : r2 ≤ 31) (h3 : r3 ≤ 31) (q : Int) (hq : IntKind.u64.wrap (m + 4096) = q) (hql : decide (q < 8192) = true) (he : m % 2 = 0) (w : World)
    (hD : ∀ w : World, Calls Try.prog 11 #[.int .u32 (x : Nat)] w fun e w' => e = .returned (.tuple #[.agg #[.int .i64 5, .int .i64 f, .bool d, .int .i64 (r1 : Nat), .int .i64 (r2 : Nat), .int .i64 (r3 : Nat), .int .u64 m], .bool true]) ∧ Grew w w') :
    Calls Try.prog 4 #[.int .u32 (x : Nat)] w fun e w' => e = .returned (.bool true) ∧ Grew w w' := by
  go_enter Try.func4, Try.ntmps4
  go_wp2_with fail
  refine (hD _).mono ?_
  rintro e w1 ⟨rfl, g1⟩
  have G := g1.alloc (.cells #[.int .i64 5, .int .i64 f, .bool d, .int .i64 (r1 : Nat), .int .i64 (r2 : Nat), .int .i64 (r3 : Nat), .int .u64 m] 30)
  go_wp2_with fail
  refine (heads_c G).mono ?_
  rintro e w2 ⟨rfl, g2⟩
  go_wp2_with fail
  go_ret
  exact ⟨rfl, g2⟩
set_option maxRecDepth 100000 in
set_option maxHeartbeats 1000000 in
theorem csr (x : Nat) (f : Int) (d : Bool) (r1 r2 r3 : Nat) (m : Int) (hm0 : 0 ≤ m) (h1 : r1 ≤ 31) (h2 : r2 ≤ 31) (h3 : r3 ≤ 31) (hm : m < 4096) (w : World)
    (hD : ∀ w : World, Calls Try.prog 11 #[.int .u32 (x : Nat)] w fun e w' => e = .returned (.tuple #[.agg #[.int .i64 12, .int .i64 f, .bool d, .int .i64 (r1 : Nat), .int .i64 (r2 : Nat), .int .i64 (r3 : Nat), .int .u64 m], .bool true]) ∧ Grew w w') :
    Calls Try.prog 4 #[.int .u32 (x : Nat)] w fun e w' => e = .returned (.bool true) ∧ Grew w w' := by
  go_enter Try.func4, Try.ntmps4
  go_wp2_with fail
  refine (hD _).mono ?_
  rintro e w1 ⟨rfl, g1⟩
  have G := g1.alloc (.cells #[.int .i64 12, .int .i64 f, .bool d, .int .i64 (r1 : Nat), .int .i64 (r2 : Nat), .int .i64 (r3 : Nat), .int .u64 m] 30)
  go_wp2_with fail
  refine (heads_c G).mono ?_
  rintro e w2 ⟨rfl, g2⟩
  go_wp2_with fail
  go_ret
  exact ⟨rfl, g2⟩
set_option maxRecDepth 100000 in
set_option maxHeartbeats 1000000 in
theorem rest (x : Nat) (c : Int) (f : Int) (d : Bool) (r1 r2 r3 : Nat) (m : Int) (hm0 : 0 ≤ m) (h1 : r1 ≤ 31) (h2 : r2 ≤ 31) (h3 : r3 ≤ 31) (q : Int) (hq : IntKind.u64.wrap (m + 2048) = q) (hql : decide (q < 4096) = true) (hc1 : 1 ≤ c) (hc2 : c ≤ 13) (n1 : ¬ c = 1) (n2 : ¬ c = 2) (n3 : ¬ c = 3) (n5 : ¬ c = 5) (n12 : ¬ c = 12) (w : World)
    (hD : ∀ w : World, Calls Try.prog 11 #[.int .u32 (x : Nat)] w fun e w' => e = .returned (.tuple #[.agg #[.int .i64 c, .int .i64 f, .bool d, .int .i64 (r1 : Nat), .int .i64 (r2 : Nat), .int .i64 (r3 : Nat), .int .u64 m], .bool true]) ∧ Grew w w') :
    Calls Try.prog 4 #[.int .u32 (x : Nat)] w fun e w' => e = .returned (.bool true) ∧ Grew w w' := by
  go_enter Try.func4, Try.ntmps4
  go_wp2_with fail
  refine (hD _).mono ?_
  rintro e w1 ⟨rfl, g1⟩
  have G := g1.alloc (.cells #[.int .i64 c, .int .i64 f, .bool d, .int .i64 (r1 : Nat), .int .i64 (r2 : Nat), .int .i64 (r3 : Nat), .int .u64 m] 30)
  go_wp2_with fail
  refine (heads_c G).mono ?_
  rintro e w2 ⟨rfl, g2⟩
  go_wp2_with fail
  go_ret
  exact ⟨rfl, g2⟩
theorem Sm.q {m p : Nat} (h : Sm m p) (hp : p ≤ 4611686018427387904) : ∃ q : Nat, IntKind.u64.wrap ((m : Int) + (p : Int)) = (q : Int) ∧ decide ((q : Int) < ((2 * p : Nat) : Int)) = true := by
  rw [wrap_u64]
  rcases h with h | ⟨h, h'⟩
  · exact ⟨m + p, by omega, decide_eq_true (by omega)⟩
  · exact ⟨m + p - 18446744073709551616, by omega, decide_eq_true (by omega)⟩
set_option maxRecDepth 100000 in
set_option maxHeartbeats 1000000 in
theorem rng_no (x : Nat) (w : World)
    (hD : ∀ w : World, Calls Try.prog 11 #[.int .u32 (x : Nat)] w fun e w' => e = .returned (.tuple #[.agg #[.int .i64 0, .int .i64 0, .bool false, .int .i64 0, .int .i64 0, .int .i64 0, .int .u64 0], .bool false]) ∧ Grew w w') :
    Calls Try.prog 4 #[.int .u32 (x : Nat)] w fun e w' => e = .returned (.bool true) ∧ Grew w w' := by
  go_enter Try.func4, Try.ntmps4
  go_wp2_with fail
  refine (hD _).mono ?_
  rintro e w1 ⟨rfl, g1⟩
  have G := g1.alloc (.cells #[.int .i64 0, .int .i64 0, .bool false, .int .i64 0, .int .i64 0, .int .i64 0, .int .u64 0] 30)
  go_wp2_with fail
  refine (heads_c G).mono ?_
  rintro e w2 ⟨rfl, g2⟩
  go_wp2_with fail
  go_ret
  exact ⟨rfl, g2⟩
theorem walkN (x : Nat) (hx : x < 4294967296) (w : World) : Calls Try.prog 4 #[.int .u32 (x : Nat)] w fun e w' => e = .returned (.bool true) ∧ Grew w w' := by
  have hD := @decode_c x hx
  by_cases hn : noB (kOf x) = true
  · rw [if_pos hn, hn] at hD
    exact rng_no x w hD
  · have hn' : noB (kOf x) = false := by simpa using hn
    rw [if_neg hn, hn'] at hD
    have hcl := cl_of x
    have a1 := reg_rng (shp (kOf x).c (kOf x).f).rd x 11 7 rfl
    have a2 := reg_rng (shp (kOf x).c (kOf x).f).rs1 x 19 15 rfl
    have a3 := reg_rng (shp (kOf x).c (kOf x).f).rs2 x 24 20 rfl
    unfold decI at hD
    generalize kOf x = k at *
    obtain ⟨c, f, d⟩ := k
    dsimp only at hD a1 a2 a3
    have hc : 1 ≤ c ∧ c ≤ 13 := by
      rcases hcl with h | h
      · rw [h] at hn'
        exact absurd (show noB kNo = true from rfl) (by rw [hn']; decide)
      · exact h
    by_cases h12 : c = 1 ∨ c = 2
    · obtain ⟨m, hm, he, hs⟩ := imm_lui c f h12 x hx
      rw [hm] at hD
      have he' : ((m : Nat) : Int) % 4096 = 0 := by omega
      obtain ⟨q, hq, hql⟩ := hs.q (by decide)
      rcases h12 with rfl | rfl
      · exact lui1 x f d _ _ _ m (by omega) a1 a2 a3 q hq hql he' w hD
      · exact lui2 x f d _ _ _ m (by omega) a1 a2 a3 q hq hql he' w hD
    · by_cases h3 : c = 3
      · subst h3
        obtain ⟨m, hm, he, hs⟩ := imm_jal f x hx
        rw [hm] at hD
        have he' : ((m : Nat) : Int) % 2 = 0 := by omega
        obtain ⟨q, hq, hql⟩ := hs.q (by decide)
        exact two3 x f d _ _ _ m (by omega) a1 a2 a3 q hq hql he' w hD
      · by_cases h5 : c = 5
        · subst h5
          obtain ⟨m, hm, he, hs⟩ := imm_branch f x hx
          rw [hm] at hD
          have he' : ((m : Nat) : Int) % 2 = 0 := by omega
          obtain ⟨q, hq, hql⟩ := hs.q (by decide)
          exact two5 x f d _ _ _ m (by omega) a1 a2 a3 q hq hql he' w hD
        · by_cases h12' : c = 12
          · subst h12'
            obtain ⟨m, hm, hs⟩ := imm_csr f x hx
            rw [hm] at hD
            exact csr x f d _ _ _ m (by omega) a1 a2 a3 (by omega) w hD
          · obtain ⟨m, hm, hs⟩ := imm_rest c f (fun h => h12 (.inl h)) (fun h => h12 (.inr h)) h3 h5 h12' x hx
            rw [hm] at hD
            obtain ⟨q, hq, hql⟩ := hs.q (by decide)
            exact rest x c f d _ _ _ m (by omega) a1 a2 a3 q hq hql hc.1 hc.2 (fun h => h12 (.inl h)) (fun h => h12 (.inr h)) h3 h5 h12' w hD
theorem walk (y : Int) (hy : 0 ≤ y ∧ y < 4294967296) (w : World) :
    Calls Try.prog 4 #[.int .u32 y] w fun e w' => e = .returned (.bool true) ∧ Below w.heap.size w w' := by
  obtain ⟨x, rfl⟩ := Int.eq_ofNat_of_zero_le hy.1
  exact walkN x (by omega) w

set_option maxRecDepth 100000 in
theorem lifted (os : Os) (started : os.Started) (H : Type) (enc : TypeId × Value → H) :
    ReturnsInHanded {} Try.checked os 4 .any (Rows.decodeRangesSpec.pre6 enc Try.prog Try.f4 Rows.decodeRangesRow.domain false) (Rows.decodeRangesSpec.post enc Try.prog Try.f4 false true false false) := by
  refine returnsInHanded_of_change (C := Try.checked) own started (by kernel_rfl) Try.func4
    (ChangeSpec.witness6 (enc := enc) (C := Try.checked) false ⟨#[], #[.int .u32 0], []⟩ 8 (by kernel_rfl) (by kernel_rfl) (by kernel_rfl) (by kernel_rfl)) ?_
  intro W base args ds gs before hval0 hW _ _
  have hval : ∀ (j : Nat) t v, Try.f4.params[j]? = some t → args[j]? = some v → Value.okWide Try.prog W .any base t v := hval0
  have hW' := hW
  obtain ⟨p, q, hA0, hV, rfl, hfz, hnd⟩ := hW
  have hA : DataW.TrodAll enc Try.prog W 0 (fun _ => true) true Try.f4.params.toList args.toList ds p := hA0
  rw [Try.params4] at hA hval
  obtain ⟨v0, vs0, d0, ds0, p0, q0, hargs, rfl, rfl, h0, r'0⟩ := trodAll_cons hA
  obtain ⟨rfl, rfl, rfl⟩ := trodAll_nil r'0
  obtain rfl : args = #[v0] := by cases args; simp_all
  obtain ⟨a0, rfl, rfl, rfl, w0⟩ := open_int Try.underlying23 (hval 0 23 v0 rfl rfl) h0
  refine (walk a0 (wf_u32 w0) W).mono fun e W' ⟨he, hb⟩ => ?_
  subst he
  exact ⟨_, rfl, law_post hW' rfl rfl laid (by kernel_rfl) rfl Try.underlying4 hb⟩

theorem over : Rows.decodeRangesRow.holds Try.pinned (OpenSpec.ofChange Rows.decodeRangesSpec) :=
  OpenClaim.holds_of_wide 4 Try.f4 rfl rfl rfl rfl rfl rfl rfl ⟨rfl, rfl, rfl, rfl, rfl⟩ rfl rfl rfl rfl rfl (by kernel_rfl) Try.func4 (by kernel_rfl)
    (of_decide_eq_true (by kernel_rfl)) (by unfold Func.isWrapper; first | (rw [if_pos (by decide +kernel)]; kernel_rfl) | (rw [if_neg (by decide +kernel)]; exact ⟨rfl, rfl⟩))
    (fun os started H enc _ => lifted os started H enc)

theorem proved : Rows.DecodeRangesSaid := over
#print axioms proved
end Go.Proofs.Ytagknjcjboiooaa.decodeRanges
