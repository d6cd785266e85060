/-
  Contracts of package alu: Do.
-/
import Derived.Test.YtgekmhcekkmdhaaAluD
set_option linter.unusedVariables false
set_option linter.unusedSimpArgs false
namespace Go.Proofs.Ytgekmhcekkmdhaa
open Go.RowKit

/-! ### Do -/
def hasOp (f : Int) : Bool := decide (0 ≤ f ∧ f ≤ 8 ∨ f = 13 ∨ 16 ≤ f ∧ f ≤ 23)
def hasNarrow (f : Int) : Bool := decide (f = 0 ∨ f = 1 ∨ f = 5 ∨ f = 8 ∨ f = 13 ∨ f = 16 ∨ 20 ≤ f ∧ f ≤ 23)
def opV (f a b : Int) : Int :=
  if f = 0 then addV a b else if f = 1 then sllV a b else if f = 2 then sltV a b else if f = 3 then sltuV a b else if f = 4 then xorV a b else if f = 5 then srlV a b
  else if f = 6 then orV a b else if f = 7 then andV a b else if f = 8 then subV a b else if f = 13 then sraV a b else if f = 16 then mulV a b
  else if f = 17 then hisV a b else if f = 18 then himV a b else if f = 19 then hiV a b else if f = 20 then divV a b else if f = 21 then divuV a b
  else if f = 22 then remV a b else if f = 23 then remuV a b else 0
def nA (f a : Int) : Int := if f = 1 ∨ f = 5 ∨ f = 21 ∨ f = 23 then fieldV a 31 0 else sextV a 32
def nB (f b : Int) : Int := if f = 1 ∨ f = 5 ∨ f = 13 then b % 32 else if f = 21 ∨ f = 23 then fieldV b 31 0 else sextV b 32
def doPV (f : Int) (word : Bool) (a b : Int) : Int :=
  if word = true then (if hasNarrow f = true then sextV (opV f (nA f a) (nB f b)) 32 else 0) else opV f a b

/-- What a sum's first cell holds: none, and the answer is 0; or a method that answers it. -/
def DoIs (f : Int) (v : Value) : Prop :=
  (v = .nilFunc ∧ ∀ a b, opV f a b = 0) ∨ ∃ k : FuncId, v = .func (.func k) #[] #[] ∧ (∀ a b (w : World), (callFunc k #[pr a b]).run Try.prog w = .ok (.enter k #[pr a b]) w) ∧
    ∀ a b : Int, 0 ≤ a → a < 18446744073709551616 → 0 ≤ b → b < 18446744073709551616 → ∀ {W w : World}, Grew W w → Calls Try.prog k #[pr a b] w fun e w' => e = .returned (.int .u64 (opV f a b)) ∧ Grew W w'
/-- What its second cell holds. -/
def NarrowIs (f : Int) (v : Value) : Prop :=
  (v = .nilFunc ∧ hasNarrow f = false) ∨ ∃ k : FuncId, v = .func (.func k) #[] #[] ∧ hasNarrow f = true ∧ (∀ a b (w : World), (callFunc k #[pr a b]).run Try.prog w = .ok (.enter k #[pr a b]) w) ∧
    ∀ a b : Int, 0 ≤ a → a < 18446744073709551616 → 0 ≤ b → b < 18446744073709551616 → ∀ {W w : World}, Grew W w → Calls Try.prog k #[pr a b] w fun e w' => e = .returned (pr (nA f a) (nB f b)) ∧ Grew W w'
def SumIs (n : Nat) : Prop := ∃ d m, tabA[n * 2]? = some d ∧ tabA[n * 2 + 1]? = some m ∧ DoIs n d ∧ NarrowIs n m
theorem sum0 : SumIs 0 := by
  refine ⟨fvA 64, fvA 38, by kernel_rfl, by kernel_rfl, ?_, ?_⟩
  · exact .inr ⟨64, rfl, fun _ _ _ => by kernel_rfl, fun a b a0 a1 b0 b1 {W w} hg => m_add a b a0 a1 b0 b1 hg⟩
  · exact .inr ⟨38, rfl, by decide, fun _ _ _ => by kernel_rfl, fun a b a0 a1 b0 b1 {W w} hg => p_signed a b a0 a1 b0 b1 hg⟩
theorem sum1 : SumIs 1 := by
  refine ⟨fvA 65, fvA 66, by kernel_rfl, by kernel_rfl, ?_, ?_⟩
  · exact .inr ⟨65, rfl, fun _ _ _ => by kernel_rfl, fun a b a0 a1 b0 b1 {W w} hg => m_sll a b a0 a1 b0 b1 hg⟩
  · exact .inr ⟨66, rfl, by decide, fun _ _ _ => by kernel_rfl, fun a b a0 a1 b0 b1 {W w} hg => p_unsignedShift a b a0 a1 b0 b1 hg⟩
theorem sum2 : SumIs 2 := by
  refine ⟨fvA 67, .nilFunc, by kernel_rfl, by kernel_rfl, ?_, ?_⟩
  · exact .inr ⟨67, rfl, fun _ _ _ => by kernel_rfl, fun a b a0 a1 b0 b1 {W w} hg => m_slt a b a0 a1 b0 b1 hg⟩
  · exact .inl ⟨rfl, by decide⟩
theorem sum3 : SumIs 3 := by
  refine ⟨fvA 68, .nilFunc, by kernel_rfl, by kernel_rfl, ?_, ?_⟩
  · exact .inr ⟨68, rfl, fun _ _ _ => by kernel_rfl, fun a b a0 a1 b0 b1 {W w} hg => m_sltu a b a0 a1 b0 b1 hg⟩
  · exact .inl ⟨rfl, by decide⟩
theorem sum4 : SumIs 4 := by
  refine ⟨fvA 69, .nilFunc, by kernel_rfl, by kernel_rfl, ?_, ?_⟩
  · exact .inr ⟨69, rfl, fun _ _ _ => by kernel_rfl, fun a b a0 a1 b0 b1 {W w} hg => m_xor a b a0 a1 b0 b1 hg⟩
  · exact .inl ⟨rfl, by decide⟩
theorem sum5 : SumIs 5 := by
  refine ⟨fvA 70, fvA 66, by kernel_rfl, by kernel_rfl, ?_, ?_⟩
  · exact .inr ⟨70, rfl, fun _ _ _ => by kernel_rfl, fun a b a0 a1 b0 b1 {W w} hg => m_srl a b a0 a1 b0 b1 hg⟩
  · exact .inr ⟨66, rfl, by decide, fun _ _ _ => by kernel_rfl, fun a b a0 a1 b0 b1 {W w} hg => p_unsignedShift a b a0 a1 b0 b1 hg⟩
theorem sum6 : SumIs 6 := by
  refine ⟨fvA 71, .nilFunc, by kernel_rfl, by kernel_rfl, ?_, ?_⟩
  · exact .inr ⟨71, rfl, fun _ _ _ => by kernel_rfl, fun a b a0 a1 b0 b1 {W w} hg => m_or a b a0 a1 b0 b1 hg⟩
  · exact .inl ⟨rfl, by decide⟩
theorem sum7 : SumIs 7 := by
  refine ⟨fvA 72, .nilFunc, by kernel_rfl, by kernel_rfl, ?_, ?_⟩
  · exact .inr ⟨72, rfl, fun _ _ _ => by kernel_rfl, fun a b a0 a1 b0 b1 {W w} hg => m_and a b a0 a1 b0 b1 hg⟩
  · exact .inl ⟨rfl, by decide⟩
theorem sum8 : SumIs 8 := by
  refine ⟨fvA 73, fvA 38, by kernel_rfl, by kernel_rfl, ?_, ?_⟩
  · exact .inr ⟨73, rfl, fun _ _ _ => by kernel_rfl, fun a b a0 a1 b0 b1 {W w} hg => m_sub a b a0 a1 b0 b1 hg⟩
  · exact .inr ⟨38, rfl, by decide, fun _ _ _ => by kernel_rfl, fun a b a0 a1 b0 b1 {W w} hg => p_signed a b a0 a1 b0 b1 hg⟩
theorem sum9 : SumIs 9 := by
  refine ⟨.nilFunc, .nilFunc, by kernel_rfl, by kernel_rfl, ?_, ?_⟩
  · exact .inl ⟨rfl, fun a b => by simp [opV]⟩
  · exact .inl ⟨rfl, by decide⟩
theorem sum10 : SumIs 10 := by
  refine ⟨.nilFunc, .nilFunc, by kernel_rfl, by kernel_rfl, ?_, ?_⟩
  · exact .inl ⟨rfl, fun a b => by simp [opV]⟩
  · exact .inl ⟨rfl, by decide⟩
theorem sum11 : SumIs 11 := by
  refine ⟨.nilFunc, .nilFunc, by kernel_rfl, by kernel_rfl, ?_, ?_⟩
  · exact .inl ⟨rfl, fun a b => by simp [opV]⟩
  · exact .inl ⟨rfl, by decide⟩
theorem sum12 : SumIs 12 := by
  refine ⟨.nilFunc, .nilFunc, by kernel_rfl, by kernel_rfl, ?_, ?_⟩
  · exact .inl ⟨rfl, fun a b => by simp [opV]⟩
  · exact .inl ⟨rfl, by decide⟩
theorem sum13 : SumIs 13 := by
  refine ⟨fvA 74, fvA 75, by kernel_rfl, by kernel_rfl, ?_, ?_⟩
  · exact .inr ⟨74, rfl, fun _ _ _ => by kernel_rfl, fun a b a0 a1 b0 b1 {W w} hg => m_sra a b a0 a1 b0 b1 hg⟩
  · exact .inr ⟨75, rfl, by decide, fun _ _ _ => by kernel_rfl, fun a b a0 a1 b0 b1 {W w} hg => p_signedShift a b a0 a1 b0 b1 hg⟩
theorem sum14 : SumIs 14 := by
  refine ⟨.nilFunc, .nilFunc, by kernel_rfl, by kernel_rfl, ?_, ?_⟩
  · exact .inl ⟨rfl, fun a b => by simp [opV]⟩
  · exact .inl ⟨rfl, by decide⟩
theorem sum15 : SumIs 15 := by
  refine ⟨.nilFunc, .nilFunc, by kernel_rfl, by kernel_rfl, ?_, ?_⟩
  · exact .inl ⟨rfl, fun a b => by simp [opV]⟩
  · exact .inl ⟨rfl, by decide⟩
theorem sum16 : SumIs 16 := by
  refine ⟨fvA 76, fvA 38, by kernel_rfl, by kernel_rfl, ?_, ?_⟩
  · exact .inr ⟨76, rfl, fun _ _ _ => by kernel_rfl, fun a b a0 a1 b0 b1 {W w} hg => m_mul a b a0 a1 b0 b1 hg⟩
  · exact .inr ⟨38, rfl, by decide, fun _ _ _ => by kernel_rfl, fun a b a0 a1 b0 b1 {W w} hg => p_signed a b a0 a1 b0 b1 hg⟩
theorem sum17 : SumIs 17 := by
  refine ⟨fvA 77, .nilFunc, by kernel_rfl, by kernel_rfl, ?_, ?_⟩
  · exact .inr ⟨77, rfl, fun _ _ _ => by kernel_rfl, fun a b a0 a1 b0 b1 {W w} hg => m_his a b a0 a1 b0 b1 hg⟩
  · exact .inl ⟨rfl, by decide⟩
theorem sum18 : SumIs 18 := by
  refine ⟨fvA 78, .nilFunc, by kernel_rfl, by kernel_rfl, ?_, ?_⟩
  · exact .inr ⟨78, rfl, fun _ _ _ => by kernel_rfl, fun a b a0 a1 b0 b1 {W w} hg => m_him a b a0 a1 b0 b1 hg⟩
  · exact .inl ⟨rfl, by decide⟩
theorem sum19 : SumIs 19 := by
  refine ⟨fvA 79, .nilFunc, by kernel_rfl, by kernel_rfl, ?_, ?_⟩
  · exact .inr ⟨79, rfl, fun _ _ _ => by kernel_rfl, fun a b a0 a1 b0 b1 {W w} hg => m_hi a b a0 a1 b0 b1 hg⟩
  · exact .inl ⟨rfl, by decide⟩
theorem sum20 : SumIs 20 := by
  refine ⟨fvA 80, fvA 38, by kernel_rfl, by kernel_rfl, ?_, ?_⟩
  · exact .inr ⟨80, rfl, fun _ _ _ => by kernel_rfl, fun a b a0 a1 b0 b1 {W w} hg => m_div a b a0 a1 b0 b1 hg⟩
  · exact .inr ⟨38, rfl, by decide, fun _ _ _ => by kernel_rfl, fun a b a0 a1 b0 b1 {W w} hg => p_signed a b a0 a1 b0 b1 hg⟩
theorem sum21 : SumIs 21 := by
  refine ⟨fvA 81, fvA 82, by kernel_rfl, by kernel_rfl, ?_, ?_⟩
  · exact .inr ⟨81, rfl, fun _ _ _ => by kernel_rfl, fun a b a0 a1 b0 b1 {W w} hg => m_divu a b a0 a1 b0 b1 hg⟩
  · exact .inr ⟨82, rfl, by decide, fun _ _ _ => by kernel_rfl, fun a b a0 a1 b0 b1 {W w} hg => p_unsigned a b a0 a1 b0 b1 hg⟩
theorem sum22 : SumIs 22 := by
  refine ⟨fvA 83, fvA 38, by kernel_rfl, by kernel_rfl, ?_, ?_⟩
  · exact .inr ⟨83, rfl, fun _ _ _ => by kernel_rfl, fun a b a0 a1 b0 b1 {W w} hg => m_rem a b a0 a1 b0 b1 hg⟩
  · exact .inr ⟨38, rfl, by decide, fun _ _ _ => by kernel_rfl, fun a b a0 a1 b0 b1 {W w} hg => p_signed a b a0 a1 b0 b1 hg⟩
theorem sum23 : SumIs 23 := by
  refine ⟨fvA 84, fvA 82, by kernel_rfl, by kernel_rfl, ?_, ?_⟩
  · exact .inr ⟨84, rfl, fun _ _ _ => by kernel_rfl, fun a b a0 a1 b0 b1 {W w} hg => m_remu a b a0 a1 b0 b1 hg⟩
  · exact .inr ⟨82, rfl, by decide, fun _ _ _ => by kernel_rfl, fun a b a0 a1 b0 b1 {W w} hg => p_unsigned a b a0 a1 b0 b1 hg⟩
theorem sum_at (n : Nat) (hn : n < 24) : SumIs n := by
  obtain rfl | rfl | rfl | rfl | rfl | rfl | rfl | rfl | rfl | rfl | rfl | rfl | rfl | rfl | rfl | rfl | rfl | rfl | rfl | rfl | rfl | rfl | rfl | rfl : n = 0 ∨ n = 1 ∨ n = 2 ∨ n = 3 ∨ n = 4 ∨ n = 5 ∨ n = 6 ∨ n = 7 ∨ n = 8 ∨ n = 9 ∨ n = 10 ∨ n = 11 ∨ n = 12 ∨ n = 13 ∨ n = 14 ∨ n = 15 ∨ n = 16 ∨ n = 17 ∨ n = 18 ∨ n = 19 ∨ n = 20 ∨ n = 21 ∨ n = 22 ∨ n = 23 := by omega
  · exact sum0
  · exact sum1
  · exact sum2
  · exact sum3
  · exact sum4
  · exact sum5
  · exact sum6
  · exact sum7
  · exact sum8
  · exact sum9
  · exact sum10
  · exact sum11
  · exact sum12
  · exact sum13
  · exact sum14
  · exact sum15
  · exact sum16
  · exact sum17
  · exact sum18
  · exact sum19
  · exact sum20
  · exact sum21
  · exact sum22
  · exact sum23

theorem nA_lt (f a : Int) (a0 : 0 ≤ a) (a1 : a < 18446744073709551616) : 0 ≤ nA f a ∧ nA f a < 18446744073709551616 := by
  unfold nA
  split
  · exact fieldV_lt a 31 0 a0 a1
  · exact sextV_lt a 32 a0 a1
theorem nB_lt (f b : Int) (b0 : 0 ≤ b) (b1 : b < 18446744073709551616) : 0 ≤ nB f b ∧ nB f b < 18446744073709551616 := by
  unfold nB
  split
  · omega
  · split
    · exact fieldV_lt b 31 0 b0 b1
    · exact sextV_lt b 32 b0 b1
theorem div_lt (a b : Int) (a0 : 0 ≤ a) (a1 : a < 18446744073709551616) (b0 : 0 ≤ b) : 0 ≤ a / b ∧ a / b < 18446744073709551616 := by
  have h1 : 0 ≤ a / b := Int.ediv_nonneg a0 b0
  have h2 : a / b ≤ a := Int.ediv_le_self _ a0
  omega
theorem flag_lt (x : Bool) : 0 ≤ flagV x ∧ flagV x < 18446744073709551616 := by unfold flagV; split <;> omega
theorem ite_lt {p : Prop} [Decidable p] {x y : Int} (h1 : 0 ≤ x ∧ x < 18446744073709551616) (h2 : 0 ≤ y ∧ y < 18446744073709551616) : 0 ≤ (if p then x else y) ∧ (if p then x else y) < 18446744073709551616 := by split <;> assumption
theorem opV_lt (f a b : Int) (a0 : 0 ≤ a) (a1 : a < 18446744073709551616) (b0 : 0 ≤ b) (b1 : b < 18446744073709551616) : 0 ≤ opV f a b ∧ opV f a b < 18446744073709551616 := by
  have h1 : 0 ≤ srlV a b ∧ srlV a b < 18446744073709551616 := div_lt a _ a0 a1 (Int.le_of_lt (pow_pos' _))
  have h2 : 0 ≤ divV a b ∧ divV a b < 18446744073709551616 := by unfold divV; split; omega; exact wrap_lt _
  have h3 : 0 ≤ remV a b ∧ remV a b < 18446744073709551616 := by unfold remV; split; omega; exact wrap_lt _
  have h4 : 0 ≤ divuV a b ∧ divuV a b < 18446744073709551616 := by unfold divuV; split; omega; exact div_lt a b a0 a1 b0
  have h5 : 0 ≤ remuV a b ∧ remuV a b < 18446744073709551616 := by
    unfold remuV
    split
    · omega
    · have := Int.emod_nonneg a ‹¬ b = 0›
      have := Int.emod_lt_of_pos a (show 0 < b by omega)
      omega
  unfold opV
  repeat (refine ite_lt ?_ ?_; first | exact wrap_lt _ | exact flag_lt _ | exact xor_lt a b a0 a1 b0 b1 | exact or_lt a b a0 a1 b0 b1 | exact and_lt a b a0 a1 b0 b1 | exact hi_lt a b a0 a1 b0 b1 | exact h1 | exact h2 | exact h3 | exact h4 | exact h5)
  omega

set_option maxHeartbeats 2000000 in
theorem do_c (f : Int) (word : Bool) (a b : Int) (a0 : 0 ≤ a) (a1 : a < 18446744073709551616) (b0 : 0 ≤ b) (b1 : b < 18446744073709551616) (w : World) :
    Calls Try.prog 17 #[.int .i64 f, .bool word, .int .u64 a, .int .u64 b] w fun e w' => e = .returned (.int .u64 (doPV f word a b)) ∧ Grew w w' := by
  by_cases hr : f < 0 ∨ 24 ≤ f
  · rw [show doPV f word a b = 0 by
      have h1 : hasNarrow f = false := by unfold hasNarrow; simp; omega
      have h2 : opV f a b = 0 := by unfold opV; repeat (first | rfl | omega | split)
      unfold doPV; rw [h1, h2]; simp]
    have hnil : ∀ w : World, (binOp BinOp.eql 53 .nilFunc .nilFunc).run Try.prog w = .ok (.bool true) w := fun _ => by kernel_rfl
    go_enter Try.func17, Try.ntmps17
    go_wp2_with fail
    refine (sumOf_none f hr (Grew.refl w)).mono ?_
    rintro e w1 ⟨rfl, g1⟩
    go_wp2_with fail
    go_ret
    exact ⟨rfl, (g1.alloc _).alloc _⟩
  · obtain ⟨n, rfl⟩ := Int.eq_ofNat_of_zero_le (show 0 ≤ f by omega)
    obtain ⟨d, m, hd, hm, hD, hM⟩ := sum_at n (by omega)
    have hn : n < 24 := by omega
    clear hr
    have na := nA_lt n a a0 a1
    have nb := nB_lt n b b0 b1
    have HDD := Lib.hid hd
    have HMM := Lib.hid hm
    clear hd hm
    rcases hD with ⟨rfl, h0⟩ | ⟨k, rfl, hf, hk⟩
    · rw [show doPV n word a b = 0 by unfold doPV; rw [h0, h0]; cases word <;> simp [show sextV 0 32 = 0 by decide]]
      clear h0
      have hnil : ∀ w : World, (binOp BinOp.eql 53 .nilFunc .nilFunc).run Try.prog w = .ok (.bool true) w := fun _ => by kernel_rfl
      rcases hM with ⟨rfl, hm0⟩ | ⟨q, rfl, hm1, hq, hqc⟩
      all_goals
        go_enter Try.func17, Try.ntmps17
        go_wp2_with fail
        refine (sumOf_v n hn _ _ HDD.out HMM.out (Grew.refl w)).mono ?_
        rintro e w1 ⟨rfl, g1⟩
        go_wp2_with fail
        go_ret
        exact ⟨rfl, (g1.alloc _).alloc _⟩
    · have hnil : ∀ w : World, (binOp BinOp.eql 53 (.func (.func k) #[] #[]) .nilFunc).run Try.prog w = .ok (.bool false) w := fun _ => by kernel_rfl
      cases word
      · rw [show doPV n false a b = opV n a b by simp [doPV]]
        rcases hM with ⟨rfl, hm0⟩ | ⟨q, rfl, hm1, hq, hqc⟩
        all_goals
          go_enter Try.func17, Try.ntmps17
          go_wp2_with fail
          refine (sumOf_v n hn _ _ HDD.out HMM.out (Grew.refl w)).mono ?_
          rintro e w1 ⟨rfl, g1⟩
          go_wp2_with fail
          refine (hk a b a0 a1 b0 b1 ((g1.alloc _).alloc _)).mono ?_
          rintro e w2 ⟨rfl, g2⟩
          go_wp2_with fail
          go_ret
          exact ⟨rfl, g2⟩
      · rcases hM with ⟨rfl, hm0⟩ | ⟨q, rfl, hm1, hq, hqc⟩
        · rw [show doPV n true a b = 0 by simp [doPV, hm0]]
          have hnim : ∀ w : World, (binOp BinOp.eql 54 .nilFunc .nilFunc).run Try.prog w = .ok (.bool true) w := fun _ => by kernel_rfl
          go_enter Try.func17, Try.ntmps17
          go_wp2_with fail
          refine (sumOf_v n hn _ _ HDD.out HMM.out (Grew.refl w)).mono ?_
          rintro e w1 ⟨rfl, g1⟩
          go_wp2_with fail
          go_ret
          exact ⟨rfl, (g1.alloc _).alloc _⟩
        · rw [show doPV n true a b = sextV (opV n (nA n a) (nB n b)) 32 by simp [doPV, hm1]]
          have hnim : ∀ w : World, (binOp BinOp.eql 54 (.func (.func q) #[] #[]) .nilFunc).run Try.prog w = .ok (.bool false) w := fun _ => by kernel_rfl
          have ol := opV_lt n (nA n a) (nB n b) na.1 na.2 nb.1 nb.2
          go_enter Try.func17, Try.ntmps17
          go_wp2_with fail
          refine (sumOf_v n hn _ _ HDD.out HMM.out (Grew.refl w)).mono ?_
          rintro e w1 ⟨rfl, g1⟩
          go_wp2_with fail
          have kA := (Blk.new w1 #[.func (.func k) #[] #[], .func (.func q) #[] #[]] 56 w1.heap.size rfl).alloc (.cells #[.int .u64 a, .int .u64 b] 59)
          have kB := Blk.new (w1.alloc (.cells #[.func (.func k) #[] #[], .func (.func q) #[] #[]] 56)) #[.int .u64 a, .int .u64 b] 59 (w1.heap.size + 1) (by simp)
          have gb := (g1.alloc (.cells #[.func (.func k) #[] #[], .func (.func q) #[] #[]] 56)).alloc (.cells #[.int .u64 a, .int .u64 b] 59)
          generalize (w1.alloc (.cells #[.func (.func k) #[] #[], .func (.func q) #[] #[]] 56)).alloc (.cells #[.int .u64 a, .int .u64 b] 59) = wb at *
          have c0 : wb.cell? ⟨w1.heap.size, 0, none⟩ = some (.func (.func k) #[] #[]) := kA.cell 0
          have c1 : wb.cell? ⟨w1.heap.size, 1, none⟩ = some (.func (.func q) #[] #[]) := kA.cell 1
          have c2 : wb.cell? ⟨w1.heap.size + 1, 0, none⟩ = some (.int .u64 a) := kB.cell 0
          have c3 : wb.cell? ⟨w1.heap.size + 1, 1, none⟩ = some (.int .u64 b) := kB.cell 1
          have hA := kA.lt
          have hB := kB.lt
          clear kA kB
          go_region_held3 (fun w' => w'.cell? ⟨w1.heap.size, 0, none⟩ = some (.func (.func k) #[] #[]) ∧ w'.cell? ⟨w1.heap.size, 1, none⟩ = some (.func (.func q) #[] #[]) ∧ w'.cell? ⟨w1.heap.size + 1, 0, none⟩ = some (.int .u64 a) ∧ w'.cell? ⟨w1.heap.size + 1, 1, none⟩ = some (.int .u64 b)) (go_keep) (first | ((with_reducible refine (hqc a b a0 a1 b0 b1 (Grew.refl _)).mono ?_); rintro e w5 ⟨rfl, g5⟩; have g35 := (Grew.refl wb).drew1.trans g5; have s0 : w5.cell? ⟨w1.heap.size, 0, none⟩ = some (.func (.func k) #[] #[]) := (by rw [(gcell g35).1 _ _ hA]; exact c0); have s1 : w5.cell? ⟨w1.heap.size, 1, none⟩ = some (.func (.func q) #[] #[]) := (by rw [(gcell g35).1 _ _ hA]; exact c1); have s2 : w5.cell? ⟨w1.heap.size + 1, 0, none⟩ = some (.int .u64 a) := (by rw [(gcell g35).1 _ _ hB]; exact c2); have s3 : w5.cell? ⟨w1.heap.size + 1, 1, none⟩ = some (.int .u64 b) := (by rw [(gcell g35).1 _ _ hB]; exact c3)) | ((with_reducible refine (hk _ _ na.1 na.2 nb.1 nb.2 (Grew.refl _)).mono ?_); rintro e w6 ⟨rfl, g6⟩; have g36 := g35.trans g6; have t0 : w6.cell? ⟨w1.heap.size, 0, none⟩ = some (.func (.func k) #[] #[]) := (by rw [(gcell g36).1 _ _ hA]; exact c0); have t1 : w6.cell? ⟨w1.heap.size, 1, none⟩ = some (.func (.func q) #[] #[]) := (by rw [(gcell g36).1 _ _ hA]; exact c1); have t2 : w6.cell? ⟨w1.heap.size + 1, 0, none⟩ = some (.int .u64 a) := (by rw [(gcell g36).1 _ _ hB]; exact c2); have t3 : w6.cell? ⟨w1.heap.size + 1, 1, none⟩ = some (.int .u64 b) := (by rw [(gcell g36).1 _ _ hB]; exact c3)) | (go_at_call 33; refine (sext_c _ 32 ol.1 ol.2 _).mono ?_; rintro e w' ⟨rfl, h'⟩; obtain rfl := h'.symm))
          go_wp2_with fail
          go_ret
          exact ⟨rfl, gb.trans g36⟩
end Go.Proofs.Ytgekmhcekkmdhaa
