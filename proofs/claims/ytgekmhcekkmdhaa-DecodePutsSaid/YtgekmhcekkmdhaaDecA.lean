/-
  Contracts of package decode: the part-taker, and small functions.
-/
import Derived.Test.YtgekmhcekkmdhaaField
import Derived.Test.YtgekmhcekkmdhaaDecN
import Derived.LoopTactic
import Derived.Outline
import Derived.Handy
import Derived.Laws.StructEq
import Derived.Laws.EntriesVeiled
set_option linter.unusedVariables false
set_option linter.unusedSimpArgs false
namespace Go.Proofs.Ytgekmhcekkmdhaa
open Go.RowKit

theorem ret_u32 {a b : Int} (h : a = b) : Ending.returned (.int .u32 a) = .returned (.int .u32 b) := by rw [h]

theorem lowest_val (f n : Int) (h1 : 1 ≤ n) (h2 : n ≤ 63) : fieldV (f % 18446744073709551616) (n - 1) 0 = f % 2 ^ n.toNat := by
  rw [fieldV_low _ n h1 h2]
  have h : (2 : Int) ^ n.toNat ∣ 18446744073709551616 := by
    rw [← two64, pow_split (m := n.toNat) (n := 64) (by omega)]
    exact Int.dvd_mul_right ..
  exact Int.emod_emod_of_dvd f h

/-- Below W's heap nothing has turned. -/
def Grew (W w : World) : Prop := Below W.heap.size W w
theorem Grew.refl (W : World) : Grew W W := Below.refl _ W
theorem Grew.drewN {W w : World} (h : Grew W w) (n : Nat) : Grew W (w.drewN n) := ⟨h.os, h.tape, h.output, h.size, h.block⟩
theorem Grew.drew {W w w' : World} (h : Grew W w) (d : Drew w w') : Grew W w' := by obtain ⟨n, rfl⟩ := d; exact h.drewN n
theorem Grew.alloc {W w : World} (h : Grew W w) (o : Obj) : Grew W (w.alloc o) := Below.alloc h h.size o

/-- The part-taker of the word in block b. -/
abbrev partV (b : Nat) : Value := .func (.func 40) #[] #[.pointer (some ⟨b, 0, none⟩)]

theorem part_d (x : Nat) (hx : x < 4294967296) (hi lo : Int) (h0 : 0 ≤ lo) (h1 : lo ≤ hi) (h2 : hi ≤ 63) (b : Nat) (w : World) (hc : w.cell? ⟨b, 0, none⟩ = some (.int .u32 (x : Nat))) :
    Calls Try.prog 40 #[.int .i64 hi, .int .i64 lo, .pointer (some ⟨b, 0, none⟩)] w fun e w' => e = .returned (.int .u64 (fN x hi lo : Nat)) ∧ Drew w w' := by
  have e := fN_field x hi lo h0 h1 h2
  have H := Lib.hid e
  clear e
  go_enter Try.func40, Try.ntmps40
  go_wp2_with fail
  refine (field_c (x : Int) hi lo (by omega) (by omega) _).mono ?_
  rintro e w' ⟨rfl, n, rfl⟩
  go_wp2
  go_ret
  exact ⟨ret_u64 H.out, n, rfl⟩

theorem partsOf_c (x : Nat) (hx : x < 4294967296) (w : World) :
    Calls Try.prog 24 #[.int .u32 (x : Nat)] w fun e w' => e = .returned (partV w.heap.size) ∧ w' = w.alloc (.cells #[.int .u32 (x : Nat)] 22) := by
  go_enter Try.func24, Try.ntmps24
  go_wp2
  go_ret
  exact ⟨rfl, rfl⟩

theorem lowest_c (f : Int) (n : Int) (hf0 : -9223372036854775808 ≤ f) (hf1 : f ≤ 9223372036854775807) (h1 : 1 ≤ n) (h2 : n ≤ 63) (w : World) :
    Calls Try.prog 55 #[.int .i64 f, .int .i64 n] w fun e w' => e = .returned (.int .u64 (f % 2 ^ n.toNat)) ∧ Drew w w' := by
  have e := lowest_val f n h1 h2
  have H := Lib.hid e
  clear e
  have hw : 0 ≤ f % 18446744073709551616 ∧ f % 18446744073709551616 < 18446744073709551616 := by omega
  go_enter Try.func55, Try.ntmps55
  go_wp2_with fail
  refine (field_c (f % 18446744073709551616) (n - 1) 0 hw.1 hw.2 _).mono ?_
  rintro e w' ⟨rfl, m, rfl⟩
  go_wp2
  go_ret
  exact ⟨ret_u64 H.out, m, rfl⟩
theorem only_c (b : Bool) (c f : Int) (d : Bool) (w : World) :
    Calls Try.prog 42 #[.bool b, .agg #[.int .i64 c, .int .i64 f, .bool d, .int .i64 0, .int .i64 0, .int .i64 0, .int .u64 0]] w fun e w' =>
      e = .returned (.agg #[.int .i64 (onI b c), .int .i64 (onI b f), .bool (onB b d), .int .i64 0, .int .i64 0, .int .i64 0, .int .u64 0]) ∧
      w' = (w.alloc (.cells #[.int .i64 c, .int .i64 f, .bool d, .int .i64 0, .int .i64 0, .int .i64 0, .int .u64 0] 26)).alloc
        (.cells #[.int .i64 (onI b c), .int .i64 (onI b f), .bool (onB b d), .int .i64 0, .int .i64 0, .int .i64 0, .int .u64 0] 26) := by
  cases b
  all_goals
    go_enter Try.func42, Try.ntmps42
    go_wp2_with fail
    go_returns
    exact ⟨rfl, rfl⟩

theorem Grew.setCell {W w : World} (h : Grew W w) {b o : Nat} (hb : W.heap.size ≤ b) (v : Value) : Grew W (w.setCell ⟨b, o, none⟩ v) := Below.setCell h hb v

theorem ret_k {a b : Int} {e : Bool} {k : Kd} (h1 : a = k.c) (h2 : b = k.f) (h3 : e = k.d) :
    Ending.returned (.agg #[.int .i64 a, .int .i64 b, .bool e, .int .i64 0, .int .i64 0, .int .i64 0, .int .u64 0]) = .returned (.agg #[.int .i64 k.c, .int .i64 k.f, .bool k.d, .int .i64 0, .int .i64 0, .int .i64 0, .int .u64 0]) := by rw [h1, h2, h3]
/-- An instruction's value of which only Class, F and Word are told. -/
abbrev kV (k : Kd) : Value := .agg #[.int .i64 k.c, .int .i64 k.f, .bool k.d, .int .i64 0, .int .i64 0, .int .i64 0, .int .u64 0]
theorem Grew.drew1 {W w : World} (h : Grew W w) : Grew W w.drew := ⟨h.os, h.tape, h.output, h.size, h.block⟩
/-- What stood is read behind a call that makes memory. -/
theorem gcell {W w1 : World} (hb : Grew W w1) : (∀ b o, b < W.heap.size → w1.cell? ⟨b, o, none⟩ = W.cell? ⟨b, o, none⟩) ∧ (∀ b o, b < W.heap.size → w1.frozen? ⟨b, o, none⟩ = W.frozen? ⟨b, o, none⟩) :=
  ⟨fun b o h => hb.cell (p := ⟨b, o, none⟩) h, fun b o h => hb.frozen (p := ⟨b, o, none⟩) h⟩
theorem Grew.trans {A B C : World} (h1 : Grew A B) (h2 : Grew B C) : Grew A C := Below.trans h1 (h2.mono h1.size)

set_option maxHeartbeats 1000000 in
theorem immKind_c (f g : Int) (d : Bool) (hf : 0 ≤ f ∧ f < 8) (hg : 0 ≤ g ∧ g < 128) (w : World) :
    Calls Try.prog 43 #[.int .i64 f, .int .i64 g, .bool d] w fun e w' => e = .returned (kV (kImm f g d)) ∧ Grew w w' := by
  by_cases f1 : f = 1
  · skip
    subst f1
    have r : kImm 1 g d = kOn (g == 0) 8 1 d := by simp [kImm]
    rw [r]
    clear r
    go_enter Try.func43, Try.ntmps43
    go_wp2_with fail
    refine (only_c _ _ _ _ _).mono ?_
    rintro e w1 ⟨rfl, rfl⟩
    go_wp2_with fail
    go_returns
    exact ⟨rfl, (by repeat (first | exact Grew.refl _ | refine Grew.alloc ?_ _ | refine Grew.drewN ?_ _ | refine Grew.setCell ?_ (by simp) _))⟩
  · by_cases f5 : f = 5
    · subst f5
      by_cases g2 : g = 32
      · skip
        subst g2
        have r : kImm 5 32 d = ⟨8, 13, d⟩ := by simp [kImm]
        rw [r]
        clear r
        go_enter Try.func43, Try.ntmps43
        go_wp2_with fail
        go_returns
        exact ⟨rfl, (by repeat (first | exact Grew.refl _ | refine Grew.alloc ?_ _ | refine Grew.drewN ?_ _ | refine Grew.setCell ?_ (by simp) _))⟩
      · skip
        have r : kImm 5 g d = kOn (g == 0) 8 5 d := by simp [kImm, g2]
        rw [r]
        clear r
        go_enter Try.func43, Try.ntmps43
        go_wp2_with fail
        refine (only_c _ _ _ _ _).mono ?_
        rintro e w1 ⟨rfl, rfl⟩
        go_wp2_with fail
        go_returns
        exact ⟨rfl, (by repeat (first | exact Grew.refl _ | refine Grew.alloc ?_ _ | refine Grew.drewN ?_ _ | refine Grew.setCell ?_ (by simp) _))⟩
    · by_cases f0 : f = 0
      · skip
        subst f0
        have r : kImm 0 g d = ⟨8, 0, d⟩ := by simp [kImm]
        rw [r]
        clear r
        go_enter Try.func43, Try.ntmps43
        go_wp2_with fail
        go_returns
        exact ⟨rfl, (by repeat (first | exact Grew.refl _ | refine Grew.alloc ?_ _ | refine Grew.drewN ?_ _ | refine Grew.setCell ?_ (by simp) _))⟩
      · skip
        have r : kImm f g d = kOn (!d) 8 f d := by simp [kImm, f1, f5, f0]
        rw [r]
        clear r
        go_enter Try.func43, Try.ntmps43
        go_wp2_with fail
        refine (only_c _ _ _ _ _).mono ?_
        rintro e w1 ⟨rfl, rfl⟩
        go_wp2_with fail
        go_returns
        exact ⟨rfl, (by repeat (first | exact Grew.refl _ | refine Grew.alloc ?_ _ | refine Grew.drewN ?_ _ | refine Grew.setCell ?_ (by simp) _))⟩
end Go.Proofs.Ytgekmhcekkmdhaa
