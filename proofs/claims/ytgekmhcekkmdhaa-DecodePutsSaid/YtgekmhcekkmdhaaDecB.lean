/-
  Contracts of package decode: what reckons with two registers.
-/
import Derived.Test.YtgekmhcekkmdhaaDecA
set_option linter.unusedVariables false
set_option linter.unusedSimpArgs false
namespace Go.Proofs.Ytgekmhcekkmdhaa
open Go.RowKit

set_option maxHeartbeats 1000000 in
theorem regKind_0f (f : Int) (hf : 0 ≤ f ∧ f < 8) (w : World) :
    Calls Try.prog 44 #[.int .i64 f, .int .i64 0, .bool false] w fun e w' => e = .returned (kV (kReg f 0 false)) ∧ Grew w w' := by
  skip
  · by_cases f0 : f = 0
    · skip
      subst f0
      have r : kReg 0 0 false = ⟨9, 0, false⟩ := by simp [kReg, kOn, kNo, onI, onB, regShift]
      rw [r]
      clear r
      go_enter Try.func44, Try.ntmps44
      go_wp2_with fail
      refine (only_c _ _ _ _ _).mono ?_
      rintro e w1 ⟨rfl, rfl⟩
      go_wp2_with fail
      go_returns
      exact ⟨rfl, (by repeat (first | exact Grew.refl _ | refine Grew.alloc ?_ _ | refine Grew.drewN ?_ _ | refine Grew.setCell ?_ (by simp) _))⟩
    · by_cases f1 : f = 1
      · skip
        subst f1
        have r : kReg 1 0 false = ⟨9, 1, false⟩ := by simp [kReg, kOn, kNo, onI, onB, regShift]
        rw [r]
        clear r
        go_enter Try.func44, Try.ntmps44
        go_wp2_with fail
        refine (only_c _ _ _ _ _).mono ?_
        rintro e w1 ⟨rfl, rfl⟩
        go_wp2_with fail
        go_returns
        exact ⟨rfl, (by repeat (first | exact Grew.refl _ | refine Grew.alloc ?_ _ | refine Grew.drewN ?_ _ | refine Grew.setCell ?_ (by simp) _))⟩
      · by_cases f5 : f = 5
        · skip
          subst f5
          have r : kReg 5 0 false = ⟨9, 5, false⟩ := by simp [kReg, kOn, kNo, onI, onB, regShift]
          rw [r]
          clear r
          go_enter Try.func44, Try.ntmps44
          go_wp2_with fail
          refine (only_c _ _ _ _ _).mono ?_
          rintro e w1 ⟨rfl, rfl⟩
          go_wp2_with fail
          go_returns
          exact ⟨rfl, (by repeat (first | exact Grew.refl _ | refine Grew.alloc ?_ _ | refine Grew.drewN ?_ _ | refine Grew.setCell ?_ (by simp) _))⟩
        · skip
          have r : kReg f 0 false = ⟨9, f, false⟩ := by simp [kReg, kOn, kNo, onI, onB, regShift, f0, f1, f5]
          rw [r]
          clear r
          go_enter Try.func44, Try.ntmps44
          go_wp2_with fail
          refine (only_c _ _ _ _ _).mono ?_
          rintro e w1 ⟨rfl, rfl⟩
          go_wp2_with fail
          go_returns
          exact ⟨rfl, (by repeat (first | exact Grew.refl _ | refine Grew.alloc ?_ _ | refine Grew.drewN ?_ _ | refine Grew.setCell ?_ (by simp) _))⟩
set_option maxHeartbeats 1000000 in
theorem regKind_0t (f : Int) (hf : 0 ≤ f ∧ f < 8) (w : World) :
    Calls Try.prog 44 #[.int .i64 f, .int .i64 0, .bool true] w fun e w' => e = .returned (kV (kReg f 0 true)) ∧ Grew w w' := by
  skip
  · by_cases f0 : f = 0
    · skip
      subst f0
      have r : kReg 0 0 true = ⟨9, 0, true⟩ := by simp [kReg, kOn, kNo, onI, onB, regShift]
      rw [r]
      clear r
      go_enter Try.func44, Try.ntmps44
      go_wp2_with fail
      refine (only_c _ _ _ _ _).mono ?_
      rintro e w1 ⟨rfl, rfl⟩
      go_wp2_with fail
      go_returns
      exact ⟨rfl, (by repeat (first | exact Grew.refl _ | refine Grew.alloc ?_ _ | refine Grew.drewN ?_ _ | refine Grew.setCell ?_ (by simp) _))⟩
    · by_cases f1 : f = 1
      · skip
        subst f1
        have r : kReg 1 0 true = ⟨9, 1, true⟩ := by simp [kReg, kOn, kNo, onI, onB, regShift]
        rw [r]
        clear r
        go_enter Try.func44, Try.ntmps44
        go_wp2_with fail
        refine (only_c _ _ _ _ _).mono ?_
        rintro e w1 ⟨rfl, rfl⟩
        go_wp2_with fail
        go_returns
        exact ⟨rfl, (by repeat (first | exact Grew.refl _ | refine Grew.alloc ?_ _ | refine Grew.drewN ?_ _ | refine Grew.setCell ?_ (by simp) _))⟩
      · by_cases f5 : f = 5
        · skip
          subst f5
          have r : kReg 5 0 true = ⟨9, 5, true⟩ := by simp [kReg, kOn, kNo, onI, onB, regShift]
          rw [r]
          clear r
          go_enter Try.func44, Try.ntmps44
          go_wp2_with fail
          refine (only_c _ _ _ _ _).mono ?_
          rintro e w1 ⟨rfl, rfl⟩
          go_wp2_with fail
          go_returns
          exact ⟨rfl, (by repeat (first | exact Grew.refl _ | refine Grew.alloc ?_ _ | refine Grew.drewN ?_ _ | refine Grew.setCell ?_ (by simp) _))⟩
        · skip
          have r : kReg f 0 true = kOn (f == 0 || regShift f) 9 f true := by simp [kReg]
          rw [r]
          clear r
          go_enter Try.func44, Try.ntmps44
          go_wp2_with fail
          refine (only_c _ _ _ _ _).mono ?_
          rintro e w1 ⟨rfl, rfl⟩
          go_wp2_with fail
          go_returns
          exact ⟨rfl, (by repeat (first | exact Grew.refl _ | refine Grew.alloc ?_ _ | refine Grew.drewN ?_ _ | refine Grew.setCell ?_ (by simp) _))⟩
set_option maxHeartbeats 1000000 in
theorem regKind_32f (f : Int) (hf : 0 ≤ f ∧ f < 8) (w : World) :
    Calls Try.prog 44 #[.int .i64 f, .int .i64 32, .bool false] w fun e w' => e = .returned (kV (kReg f 32 false)) ∧ Grew w w' := by
  skip
  · by_cases f0 : f = 0
    · skip
      subst f0
      have r : kReg 0 32 false = ⟨9, 8, false⟩ := by simp [kReg, kOn, kNo, onI, onB, regShift]
      rw [r]
      clear r
      go_enter Try.func44, Try.ntmps44
      go_wp2_with fail
      refine (only_c _ _ _ _ _).mono ?_
      rintro e w1 ⟨rfl, rfl⟩
      go_wp2_with fail
      go_returns
      exact ⟨rfl, (by repeat (first | exact Grew.refl _ | refine Grew.alloc ?_ _ | refine Grew.drewN ?_ _ | refine Grew.setCell ?_ (by simp) _))⟩
    · by_cases f1 : f = 1
      · skip
        subst f1
        have r : kReg 1 32 false = kNo := by simp [kReg, kOn, kNo, onI, onB, regShift]
        rw [r]
        clear r
        go_enter Try.func44, Try.ntmps44
        go_wp2_with fail
        refine (only_c _ _ _ _ _).mono ?_
        rintro e w1 ⟨rfl, rfl⟩
        go_wp2_with fail
        go_returns
        exact ⟨rfl, (by repeat (first | exact Grew.refl _ | refine Grew.alloc ?_ _ | refine Grew.drewN ?_ _ | refine Grew.setCell ?_ (by simp) _))⟩
      · by_cases f5 : f = 5
        · skip
          subst f5
          have r : kReg 5 32 false = ⟨9, 13, false⟩ := by simp [kReg, kOn, kNo, onI, onB, regShift]
          rw [r]
          clear r
          go_enter Try.func44, Try.ntmps44
          go_wp2_with fail
          refine (only_c _ _ _ _ _).mono ?_
          rintro e w1 ⟨rfl, rfl⟩
          go_wp2_with fail
          go_returns
          exact ⟨rfl, (by repeat (first | exact Grew.refl _ | refine Grew.alloc ?_ _ | refine Grew.drewN ?_ _ | refine Grew.setCell ?_ (by simp) _))⟩
        · skip
          have r : kReg f 32 false = kOn (f == 0 || f == 5) 9 (f + 8) false := by simp [kReg]
          rw [r]
          clear r
          go_enter Try.func44, Try.ntmps44
          go_wp2_with fail
          refine (only_c _ _ _ _ _).mono ?_
          rintro e w1 ⟨rfl, rfl⟩
          go_wp2_with fail
          go_returns
          exact ⟨rfl, (by repeat (first | exact Grew.refl _ | refine Grew.alloc ?_ _ | refine Grew.drewN ?_ _ | refine Grew.setCell ?_ (by simp) _))⟩
set_option maxHeartbeats 1000000 in
theorem regKind_32t (f : Int) (hf : 0 ≤ f ∧ f < 8) (w : World) :
    Calls Try.prog 44 #[.int .i64 f, .int .i64 32, .bool true] w fun e w' => e = .returned (kV (kReg f 32 true)) ∧ Grew w w' := by
  skip
  · by_cases f0 : f = 0
    · skip
      subst f0
      have r : kReg 0 32 true = ⟨9, 8, true⟩ := by simp [kReg, kOn, kNo, onI, onB, regShift]
      rw [r]
      clear r
      go_enter Try.func44, Try.ntmps44
      go_wp2_with fail
      refine (only_c _ _ _ _ _).mono ?_
      rintro e w1 ⟨rfl, rfl⟩
      go_wp2_with fail
      go_returns
      exact ⟨rfl, (by repeat (first | exact Grew.refl _ | refine Grew.alloc ?_ _ | refine Grew.drewN ?_ _ | refine Grew.setCell ?_ (by simp) _))⟩
    · by_cases f1 : f = 1
      · skip
        subst f1
        have r : kReg 1 32 true = kNo := by simp [kReg, kOn, kNo, onI, onB, regShift]
        rw [r]
        clear r
        go_enter Try.func44, Try.ntmps44
        go_wp2_with fail
        refine (only_c _ _ _ _ _).mono ?_
        rintro e w1 ⟨rfl, rfl⟩
        go_wp2_with fail
        go_returns
        exact ⟨rfl, (by repeat (first | exact Grew.refl _ | refine Grew.alloc ?_ _ | refine Grew.drewN ?_ _ | refine Grew.setCell ?_ (by simp) _))⟩
      · by_cases f5 : f = 5
        · skip
          subst f5
          have r : kReg 5 32 true = ⟨9, 13, true⟩ := by simp [kReg, kOn, kNo, onI, onB, regShift]
          rw [r]
          clear r
          go_enter Try.func44, Try.ntmps44
          go_wp2_with fail
          refine (only_c _ _ _ _ _).mono ?_
          rintro e w1 ⟨rfl, rfl⟩
          go_wp2_with fail
          go_returns
          exact ⟨rfl, (by repeat (first | exact Grew.refl _ | refine Grew.alloc ?_ _ | refine Grew.drewN ?_ _ | refine Grew.setCell ?_ (by simp) _))⟩
        · skip
          have r : kReg f 32 true = kOn (f == 0 || f == 5) 9 (f + 8) true := by simp [kReg]
          rw [r]
          clear r
          go_enter Try.func44, Try.ntmps44
          go_wp2_with fail
          refine (only_c _ _ _ _ _).mono ?_
          rintro e w1 ⟨rfl, rfl⟩
          go_wp2_with fail
          go_returns
          exact ⟨rfl, (by repeat (first | exact Grew.refl _ | refine Grew.alloc ?_ _ | refine Grew.drewN ?_ _ | refine Grew.setCell ?_ (by simp) _))⟩
set_option maxHeartbeats 1000000 in
theorem regKind_1f (f : Int) (hf : 0 ≤ f ∧ f < 8) (w : World) :
    Calls Try.prog 44 #[.int .i64 f, .int .i64 1, .bool false] w fun e w' => e = .returned (kV (kReg f 1 false)) ∧ Grew w w' := by
  skip
  · by_cases f0 : f = 0
    · skip
      subst f0
      have r : kReg 0 1 false = ⟨9, 16, false⟩ := by simp [kReg, kOn, kNo, onI, onB, regShift]
      rw [r]
      clear r
      go_enter Try.func44, Try.ntmps44
      go_wp2_with fail
      refine (only_c _ _ _ _ _).mono ?_
      rintro e w1 ⟨rfl, rfl⟩
      go_wp2_with fail
      go_returns
      exact ⟨rfl, (by repeat (first | exact Grew.refl _ | refine Grew.alloc ?_ _ | refine Grew.drewN ?_ _ | refine Grew.setCell ?_ (by simp) _))⟩
    · by_cases f1 : f = 1
      · skip
        subst f1
        have r : kReg 1 1 false = ⟨9, 17, false⟩ := by simp [kReg, kOn, kNo, onI, onB, regShift]
        rw [r]
        clear r
        go_enter Try.func44, Try.ntmps44
        go_wp2_with fail
        refine (only_c _ _ _ _ _).mono ?_
        rintro e w1 ⟨rfl, rfl⟩
        go_wp2_with fail
        go_returns
        exact ⟨rfl, (by repeat (first | exact Grew.refl _ | refine Grew.alloc ?_ _ | refine Grew.drewN ?_ _ | refine Grew.setCell ?_ (by simp) _))⟩
      · by_cases f5 : f = 5
        · skip
          subst f5
          have r : kReg 5 1 false = ⟨9, 21, false⟩ := by simp [kReg, kOn, kNo, onI, onB, regShift]
          rw [r]
          clear r
          go_enter Try.func44, Try.ntmps44
          go_wp2_with fail
          refine (only_c _ _ _ _ _).mono ?_
          rintro e w1 ⟨rfl, rfl⟩
          go_wp2_with fail
          go_returns
          exact ⟨rfl, (by repeat (first | exact Grew.refl _ | refine Grew.alloc ?_ _ | refine Grew.drewN ?_ _ | refine Grew.setCell ?_ (by simp) _))⟩
        · skip
          have r : kReg f 1 false = ⟨9, f + 16, false⟩ := by simp [kReg, kOn, kNo, onI, onB, regShift, f0, f1, f5]
          rw [r]
          clear r
          go_enter Try.func44, Try.ntmps44
          go_wp2_with fail
          refine (only_c _ _ _ _ _).mono ?_
          rintro e w1 ⟨rfl, rfl⟩
          go_wp2_with fail
          go_returns
          exact ⟨rfl, (by repeat (first | exact Grew.refl _ | refine Grew.alloc ?_ _ | refine Grew.drewN ?_ _ | refine Grew.setCell ?_ (by simp) _))⟩
set_option maxHeartbeats 1000000 in
theorem regKind_1t (f : Int) (hf : 0 ≤ f ∧ f < 8) (w : World) :
    Calls Try.prog 44 #[.int .i64 f, .int .i64 1, .bool true] w fun e w' => e = .returned (kV (kReg f 1 true)) ∧ Grew w w' := by
  skip
  · by_cases f0 : f = 0
    · skip
      subst f0
      have r : kReg 0 1 true = ⟨9, 16, true⟩ := by simp [kReg, kOn, kNo, onI, onB, regShift]
      rw [r]
      clear r
      go_enter Try.func44, Try.ntmps44
      go_wp2_with fail
      refine (only_c _ _ _ _ _).mono ?_
      rintro e w1 ⟨rfl, rfl⟩
      go_wp2_with fail
      go_returns
      exact ⟨rfl, (by repeat (first | exact Grew.refl _ | refine Grew.alloc ?_ _ | refine Grew.drewN ?_ _ | refine Grew.setCell ?_ (by simp) _))⟩
    · by_cases f1 : f = 1
      · skip
        subst f1
        have r : kReg 1 1 true = kNo := by simp [kReg, kOn, kNo, onI, onB, regShift]
        rw [r]
        clear r
        go_enter Try.func44, Try.ntmps44
        go_wp2_with fail
        refine (only_c _ _ _ _ _).mono ?_
        rintro e w1 ⟨rfl, rfl⟩
        go_wp2_with fail
        go_returns
        exact ⟨rfl, (by repeat (first | exact Grew.refl _ | refine Grew.alloc ?_ _ | refine Grew.drewN ?_ _ | refine Grew.setCell ?_ (by simp) _))⟩
      · by_cases f5 : f = 5
        · skip
          subst f5
          have r : kReg 5 1 true = ⟨9, 21, true⟩ := by simp [kReg, kOn, kNo, onI, onB, regShift]
          rw [r]
          clear r
          go_enter Try.func44, Try.ntmps44
          go_wp2_with fail
          refine (only_c _ _ _ _ _).mono ?_
          rintro e w1 ⟨rfl, rfl⟩
          go_wp2_with fail
          go_returns
          exact ⟨rfl, (by repeat (first | exact Grew.refl _ | refine Grew.alloc ?_ _ | refine Grew.drewN ?_ _ | refine Grew.setCell ?_ (by simp) _))⟩
        · by_cases f4 : 4 ≤ f
          · skip
            have f4' : 20 ≤ f + 16 := by omega
            have r : kReg f 1 true = ⟨9, f + 16, true⟩ := by simp [kReg, kOn, onI, onB, f4']
            rw [r]
            clear r
            go_enter Try.func44, Try.ntmps44
            go_wp2_with fail
            refine (only_c _ _ _ _ _).mono ?_
            rintro e w1 ⟨rfl, rfl⟩
            go_wp2_with fail
            go_returns
            exact ⟨rfl, (by repeat (first | exact Grew.refl _ | refine Grew.alloc ?_ _ | refine Grew.drewN ?_ _ | refine Grew.setCell ?_ (by simp) _))⟩
          · skip
            have f4' : ¬ 20 ≤ f + 16 := by omega
            have r : kReg f 1 true = kOn (f + 16 == 16) 9 (f + 16) true := by simp [kReg, f4']
            rw [r]
            clear r
            go_enter Try.func44, Try.ntmps44
            go_wp2_with fail
            refine (only_c _ _ _ _ _).mono ?_
            rintro e w1 ⟨rfl, rfl⟩
            go_wp2_with fail
            go_returns
            exact ⟨rfl, (by repeat (first | exact Grew.refl _ | refine Grew.alloc ?_ _ | refine Grew.drewN ?_ _ | refine Grew.setCell ?_ (by simp) _))⟩
set_option maxHeartbeats 1000000 in
theorem regKind_c (f g : Int) (d : Bool) (hf : 0 ≤ f ∧ f < 8) (w : World) :
    Calls Try.prog 44 #[.int .i64 f, .int .i64 g, .bool d] w fun e w' => e = .returned (kV (kReg f g d)) ∧ Grew w w' := by
  by_cases g0 : g = 0
  · subst g0
    cases d
    · exact regKind_0f f hf w
    · exact regKind_0t f hf w
  · by_cases g2 : g = 32
    · subst g2
      cases d
      · exact regKind_32f f hf w
      · exact regKind_32t f hf w
    · by_cases g1 : g = 1
      · subst g1
        cases d
        · exact regKind_1f f hf w
        · exact regKind_1t f hf w
      · have r : kReg f g d = kNo := by simp [kReg, g0, g1, g2]
        rw [r]
        clear r
        by_cases f1 : f = 1
        · subst f1
          go_enter Try.func44, Try.ntmps44
          go_wp2_with fail
          go_returns
          exact ⟨rfl, (by repeat (first | exact Grew.refl _ | refine Grew.alloc ?_ _ | refine Grew.drewN ?_ _ | refine Grew.setCell ?_ (by simp) _))⟩
        · by_cases f5 : f = 5
          · subst f5
            go_enter Try.func44, Try.ntmps44
            go_wp2_with fail
            go_returns
            exact ⟨rfl, (by repeat (first | exact Grew.refl _ | refine Grew.alloc ?_ _ | refine Grew.drewN ?_ _ | refine Grew.setCell ?_ (by simp) _))⟩
          · skip
            go_enter Try.func44, Try.ntmps44
            go_wp2_with fail
            go_returns
            exact ⟨rfl, (by repeat (first | exact Grew.refl _ | refine Grew.alloc ?_ _ | refine Grew.drewN ?_ _ | refine Grew.setCell ?_ (by simp) _))⟩
end Go.Proofs.Ytgekmhcekkmdhaa
