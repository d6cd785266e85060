/-
  Package clint: contracts of the rest of its small functions (find at Soft and at no size; of, put, register, with, Lines, Tick).
-/
import Derived.Test.YtgcfmijkggpemaaGreatClA
import Derived.Deep.DeepCutAuto
set_option maxRecDepth 4000
set_option linter.unusedVariables false
set_option linter.unusedSimpArgs false
namespace Go.Proofs.YtgcfmijkggpemaaGreat
open Go.RowKit

theorem find_soft {W w : World} (g : Grew W w) :
    Calls Tryz.prog 72 #[.int .u64 0, .int .i64 4] w fun e w' => e = .returned (.tuple #[.agg #[.int .u64 0, .int .i64 0, .int .i64 1], .bool true]) ∧ Grew W w' := by
  have hgs := g.size
  go_enter Tryz.func72, Tryz.ntmps72
  go_wp2_with fail
  go_returns
  exact ⟨rfl, by repeat (first | exact g | refine Grew.setCell ?_ (by simp; omega) _ | refine Grew.alloc ?_ _)⟩
theorem clFind_no (off size : Int) (h4 : size ≠ 4) (h8 : size ≠ 8) {W w : World} (g : Grew W w) :
    Calls Tryz.prog 72 #[.int .u64 off, .int .i64 size] w fun e w' => e = .returned (.tuple #[.agg #[.int .u64 0, .int .i64 0, .int .i64 0], .bool false]) ∧ Grew W w' := by
  have hgs := g.size
  have e4 : (size == 4) = false := by simpa using h4
  have e8 : (size == 8) = false := by simpa using h8
  clear h4 h8
  go_enter Tryz.func72, Tryz.ntmps72
  go_wp2_with fail
  go_returns
  exact ⟨rfl, by repeat (first | exact g | refine Grew.setCell ?_ (by simp; omega) _ | refine Grew.alloc ?_ _)⟩

theorem fld (x hi lo : Int) (hx0 : 0 ≤ x) (hx1 : x < 18446744073709551616) {W w : World} (g : Grew W w) :
    Calls Tryz.prog 97 #[.int .u64 x, .int .i64 hi, .int .i64 lo] w fun e w' => e = .returned (.int .u64 (fieldV x hi lo)) ∧ Grew W w' :=
  (field_c x hi lo hx0 hx1 w).mono fun _ _ ⟨he, hd⟩ => ⟨he, g.drew hd⟩
theorem of_c (p l n x : Int) (hl0 : 0 ≤ l) (hl1 : l ≤ 64) (hn0 : 0 ≤ n) (hn1 : n ≤ 64) (hx0 : 0 ≤ x) (hx1 : x < 18446744073709551616) {W w : World} (g : Grew W w) :
    Calls Tryz.prog 73 #[.agg #[.int .u64 p, .int .i64 l, .int .i64 n], .int .u64 x] w fun e w' => e = .returned (.int .u64 (fieldV x (l + n - 1) l)) ∧ Grew W w' := by
  go_enter Tryz.func73, Tryz.ntmps73
  go_wp2_with (go_at_call 97; refine (fld x _ _ hx0 hx1 (g.alloc _)).mono ?_; rintro e w1 ⟨rfl, g1⟩)
  go_ret
  exact ⟨rfl, g1⟩
theorem ones_field (n : Int) (h1 : 1 ≤ n) (h2 : n ≤ 64) : fieldV 18446744073709551615 (n - 1) 0 = 2 ^ n.toNat - 1 := by
  unfold fieldV
  rw [if_pos (by omega)]
  have hp := pow_le_64 (m := n.toNat) (by omega)
  have hs := pow_split (m := n.toNat) (n := 64) (by omega)
  rw [two64] at hs
  simp only [Int.toNat_zero, Int.pow_zero, Int.ediv_one, show (n - 1 - 0 + 1).toNat = n.toNat by omega]
  have hk := pow_le_64 (m := 64 - n.toNat) (by omega)
  generalize (2 : Int) ^ n.toNat = a at *
  generalize (2 : Int) ^ (64 - n.toNat) = b at *
  rw [show (18446744073709551615 : Int) = (a - 1) + a * (b - 1) by rw [Int.mul_sub]; omega, Int.add_mul_emod_self_left, Int.emod_eq_of_lt (by omega) (by omega)]
theorem clPut_c (p l n old x : Int) (hk : Kinds l n) (ho0 : 0 ≤ old) (ho1 : old < 18446744073709551616) (hx0 : 0 ≤ x) (hx1 : x < 18446744073709551616) {W w : World} (g : Grew W w) :
    Calls Tryz.prog 76 #[.agg #[.int .u64 p, .int .i64 l, .int .i64 n], .int .u64 old, .int .u64 x] w fun e w' => e = .returned (.int .u64 (putV old x l n)) ∧ Grew W w' := by
  have hgs := g.size
  have hl0 : 0 ≤ l := by unfold Kinds at hk; omega
  have hl1 : l ≤ 63 := by unfold Kinds at hk; omega
  have hn0 : 1 ≤ n := by unfold Kinds at hk; omega
  have hn1 : n ≤ 64 := by unfold Kinds at hk; omega
  have hv := fun m hm => put_val old x l n m ho0 ho1 hx0 hx1 hk hm
  have ho := ones_field n hn0 hn1
  have hp := pow_le_64 (m := n.toNat) (by omega)
  have hm0 : 0 ≤ (2 : Int) ^ n.toNat - 1 := by omega
  have hm1 : (2 : Int) ^ n.toNat - 1 < 18446744073709551616 := by omega
  have en : IntKind.i64.wrap (n - 1) = n - 1 := IntWalk.i64_in _ (by omega)
  have HV := Lib.hid hv
  have HO := Lib.hid ho
  clear hv ho hk hp
  go_enter Tryz.func76, Tryz.ntmps76
  go_upto_region 1 with fail
  have kb : Blk (w.alloc (.cells #[.int .u64 p, .int .i64 l, .int .i64 n] 116)) w.heap.size #[.int .u64 p, .int .i64 l, .int .i64 n] 116 := Blk.new _ _ _ _ rfl
  have g0 : Grew W (w.alloc (.cells #[.int .u64 p, .int .i64 l, .int .i64 n] 116)) := g.alloc _
  generalize (w.alloc (.cells #[.int .u64 p, .int .i64 l, .int .i64 n] 116)) = w1 at *
  generalize w.heap.size = D at *
  have y0 := fun z : Over w1 => kb.overCell 0 _ rfl z
  have y1 := fun z : Over w1 => kb.overCell 1 _ rfl z
  have y2 := fun z : Over w1 => kb.overCell 2 _ rfl z
  obtain ⟨M, hM⟩ : ∃ M : Int, M = 18446744073709551615 := ⟨_, rfl⟩
  obtain ⟨F, hF⟩ : ∃ F : Int, F = 2 ^ n.toNat - 1 := ⟨_, rfl⟩
  have HF := Lib.hid hF
  rw [← hF] at hm0 hm1
  have hF' : fieldV M (n - 1) 0 = F := by rw [hM, hF, HO.out]
  have hC : ∀ (W w : World), Grew W w → Calls Tryz.prog 97 #[.int .u64 18446744073709551615, .int .i64 (n - 1), .int .i64 0] w fun e w' => e = .returned (.int .u64 F) ∧ Grew W w' := fun W w g => by
    have := fld M (n - 1) 0 (by omega) (by omega) g
    rw [hF', hM] at this
    exact this
  have HC := Lib.hid hC
  clear hC hF hF' hM M HO
  refine region_over (by kernel_rfl) (by kernel_rfl) ?_
  repeat (first | go_big_quiet_step ((go_at_call 97; with_reducible exact over_eq (HC.out _ _ (Over.g _)))) | quiet_step ((go_at_call 97; with_reducible exact over_eq (HC.out _ _ (Over.g _)))))
  refine wpQuiet_nil ?_
  intro z
  have gz := g0.trans z.g
  have c1 := y1 z
  go_wp2_with fail
  go_ret
  exact ⟨ret_u64 (HV.out _ (by rw [HF.out])), gz⟩
theorem register_c (T C : Int) (S : Bool) (p v : Int) (hv : v = if p = 16384 then C else if p = 49144 then T else if p = 0 then (if S = true then 1 else 0) else 0) {W w : World} (g : Grew W w) :
    Calls Tryz.prog 74 #[.agg #[.int .u64 T, .int .u64 C, .bool S], .int .u64 p] w fun e w' => e = .returned (.int .u64 v) ∧ Grew W w' := by
  have hgs := g.size
  by_cases h1 : p = 16384
  · rw [if_pos h1] at hv
    subst hv h1
    go_enter Tryz.func74, Tryz.ntmps74
    go_wp2_with fail
    go_ret
    exact ⟨rfl, g.alloc _⟩
  by_cases h2 : p = 49144
  · rw [if_neg h1, if_pos h2] at hv
    subst hv h2
    go_enter Tryz.func74, Tryz.ntmps74
    go_wp2_with fail
    go_ret
    exact ⟨rfl, g.alloc _⟩
  by_cases h3 : p = 0
  · rw [if_neg h1, if_neg h2, if_pos h3] at hv
    subst hv h3
    cases S
    all_goals
      go_enter Tryz.func74, Tryz.ntmps74
      go_wp2_with fail
      go_ret
      exact ⟨rfl, g.alloc _⟩
  · rw [if_neg h1, if_neg h2, if_neg h3] at hv
    subst hv
    have e1 : (p == 16384) = false := by simpa using h1
    have e2 : (p == 49144) = false := by simpa using h2
    have e3 : (p == 0) = false := by simpa using h3
    clear h1 h2 h3
    go_enter Tryz.func74, Tryz.ntmps74
    go_wp2_with fail
    go_ret
    exact ⟨rfl, g.alloc _⟩
theorem with_cmp (T C : Int) (S : Bool) (x : Int) {W w : World} (g : Grew W w) :
    Calls Tryz.prog 75 #[.agg #[.int .u64 T, .int .u64 C, .bool S], .int .u64 16384, .int .u64 x] w fun e w' => e = .returned (.agg #[.int .u64 T, .int .u64 x, .bool S]) ∧ Grew W w' := by
  have hgs := g.size
  go_enter Tryz.func75, Tryz.ntmps75
  go_wp2_with fail
  go_returns
  exact ⟨rfl, by repeat (first | exact g | refine Grew.setCell ?_ (by simp; omega) _ | refine Grew.alloc ?_ _)⟩
theorem with_time (T C : Int) (S : Bool) (x : Int) {W w : World} (g : Grew W w) :
    Calls Tryz.prog 75 #[.agg #[.int .u64 T, .int .u64 C, .bool S], .int .u64 49144, .int .u64 x] w fun e w' => e = .returned (.agg #[.int .u64 x, .int .u64 C, .bool S]) ∧ Grew W w' := by
  have hgs := g.size
  go_enter Tryz.func75, Tryz.ntmps75
  go_wp2_with fail
  go_returns
  exact ⟨rfl, by repeat (first | exact g | refine Grew.setCell ?_ (by simp; omega) _ | refine Grew.alloc ?_ _)⟩
theorem with_soft (T C : Int) (S : Bool) (x : Int) {W w : World} (g : Grew W w) :
    Calls Tryz.prog 75 #[.agg #[.int .u64 T, .int .u64 C, .bool S], .int .u64 0, .int .u64 x] w fun e w' => e = .returned (.agg #[.int .u64 T, .int .u64 C, .bool (x == 1)]) ∧ Grew W w' := by
  have hgs := g.size
  go_enter Tryz.func75, Tryz.ntmps75
  go_wp2_with fail
  go_returns
  exact ⟨rfl, by repeat (first | exact g | refine Grew.setCell ?_ (by simp; omega) _ | refine Grew.alloc ?_ _)⟩
theorem clLines_c (T C : Int) (S : Bool) {W w : World} (g : Grew W w) :
    Calls Tryz.prog 22 #[.agg #[.int .u64 T, .int .u64 C, .bool S]] w fun e w' => e = .returned (.tuple #[.bool S, .bool (decide (C ≤ T))]) ∧ Grew W w' := by
  go_enter Tryz.func22, Tryz.ntmps22
  go_wp2_with fail
  go_quiet (fail)
  go_wp2_with fail
  go_returns
  exact ⟨rfl, (g.alloc _).drewN _⟩
end Go.Proofs.YtgcfmijkggpemaaGreat
