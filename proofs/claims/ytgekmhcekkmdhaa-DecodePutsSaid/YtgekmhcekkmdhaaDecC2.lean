/-
  Contracts of package decode: what is done in memory at once.
-/
import Derived.Test.YtgekmhcekkmdhaaDecA
import Derived.Deep.RegionWith
set_option linter.unusedVariables false
set_option linter.unusedSimpArgs false
namespace Go.Proofs.Ytgekmhcekkmdhaa
open Go.RowKit

set_option maxHeartbeats 1000000 in
theorem amo_0 (x : Nat) (hx : x < 4294967296) (f : Int) (hf : f = 2 ∨ f = 3) (hq : ((fN x 31 27 : Nat) : Int) = 0) (b : Nat) (w : World) (hb : b < w.heap.size) (hc : w.cell? ⟨b, 0, none⟩ = some (.int .u32 (x : Nat))) :
    Calls Try.prog 46 #[.int .i64 f, partV b] w fun e w' => e = .returned (kV (⟨13, (fN x 31 27 : Nat), f == 2⟩)) ∧ Grew w w' := by
  rw [hq]
  have HQ := Lib.hid hq
  clear hq
  rcases hf with rfl | rfl
  all_goals
    go_enter Try.func46, Try.ntmps46
    go_wp2_with fail
    refine (part_d x hx 31 27 (by decide) (by decide) (by decide) b _ (by go_simp)).mono ?_
    rintro e w1 ⟨rfl, n1, rfl⟩
    rw [HQ.out]
    go_wp2_with fail
    go_returns
    exact ⟨rfl, (by repeat (first | with_reducible exact Grew.refl _ | with_reducible refine Grew.alloc ?_ _ | with_reducible refine Grew.drewN ?_ _ | with_reducible refine Grew.drew1 ?_ | with_reducible refine Grew.setCell ?_ (by simp) _))⟩
set_option maxHeartbeats 1000000 in
theorem amo_1 (x : Nat) (hx : x < 4294967296) (f : Int) (hf : f = 2 ∨ f = 3) (hq : ((fN x 31 27 : Nat) : Int) = 1) (b : Nat) (w : World) (hb : b < w.heap.size) (hc : w.cell? ⟨b, 0, none⟩ = some (.int .u32 (x : Nat))) :
    Calls Try.prog 46 #[.int .i64 f, partV b] w fun e w' => e = .returned (kV (⟨13, (fN x 31 27 : Nat), f == 2⟩)) ∧ Grew w w' := by
  rw [hq]
  have HQ := Lib.hid hq
  clear hq
  rcases hf with rfl | rfl
  all_goals
    go_enter Try.func46, Try.ntmps46
    go_wp2_with fail
    refine (part_d x hx 31 27 (by decide) (by decide) (by decide) b _ (by go_simp)).mono ?_
    rintro e w1 ⟨rfl, n1, rfl⟩
    rw [HQ.out]
    go_wp2_with fail
    go_returns
    exact ⟨rfl, (by repeat (first | with_reducible exact Grew.refl _ | with_reducible refine Grew.alloc ?_ _ | with_reducible refine Grew.drewN ?_ _ | with_reducible refine Grew.drew1 ?_ | with_reducible refine Grew.setCell ?_ (by simp) _))⟩
set_option maxHeartbeats 1000000 in
theorem amo_3 (x : Nat) (hx : x < 4294967296) (f : Int) (hf : f = 2 ∨ f = 3) (hq : ((fN x 31 27 : Nat) : Int) = 3) (b : Nat) (w : World) (hb : b < w.heap.size) (hc : w.cell? ⟨b, 0, none⟩ = some (.int .u32 (x : Nat))) :
    Calls Try.prog 46 #[.int .i64 f, partV b] w fun e w' => e = .returned (kV (⟨13, (fN x 31 27 : Nat), f == 2⟩)) ∧ Grew w w' := by
  rw [hq]
  have HQ := Lib.hid hq
  clear hq
  rcases hf with rfl | rfl
  all_goals
    go_enter Try.func46, Try.ntmps46
    go_wp2_with fail
    refine (part_d x hx 31 27 (by decide) (by decide) (by decide) b _ (by go_simp)).mono ?_
    rintro e w1 ⟨rfl, n1, rfl⟩
    rw [HQ.out]
    go_wp2_with fail
    go_returns
    exact ⟨rfl, (by repeat (first | with_reducible exact Grew.refl _ | with_reducible refine Grew.alloc ?_ _ | with_reducible refine Grew.drewN ?_ _ | with_reducible refine Grew.drew1 ?_ | with_reducible refine Grew.setCell ?_ (by simp) _))⟩
set_option maxHeartbeats 1000000 in
theorem amo_4 (x : Nat) (hx : x < 4294967296) (f : Int) (hf : f = 2 ∨ f = 3) (hq : ((fN x 31 27 : Nat) : Int) = 4) (b : Nat) (w : World) (hb : b < w.heap.size) (hc : w.cell? ⟨b, 0, none⟩ = some (.int .u32 (x : Nat))) :
    Calls Try.prog 46 #[.int .i64 f, partV b] w fun e w' => e = .returned (kV (⟨13, (fN x 31 27 : Nat), f == 2⟩)) ∧ Grew w w' := by
  rw [hq]
  have HQ := Lib.hid hq
  clear hq
  rcases hf with rfl | rfl
  all_goals
    go_enter Try.func46, Try.ntmps46
    go_wp2_with fail
    refine (part_d x hx 31 27 (by decide) (by decide) (by decide) b _ (by go_simp)).mono ?_
    rintro e w1 ⟨rfl, n1, rfl⟩
    rw [HQ.out]
    go_wp2_with fail
    go_returns
    exact ⟨rfl, (by repeat (first | with_reducible exact Grew.refl _ | with_reducible refine Grew.alloc ?_ _ | with_reducible refine Grew.drewN ?_ _ | with_reducible refine Grew.drew1 ?_ | with_reducible refine Grew.setCell ?_ (by simp) _))⟩
set_option maxHeartbeats 1000000 in
theorem amo_8 (x : Nat) (hx : x < 4294967296) (f : Int) (hf : f = 2 ∨ f = 3) (hq : ((fN x 31 27 : Nat) : Int) = 8) (b : Nat) (w : World) (hb : b < w.heap.size) (hc : w.cell? ⟨b, 0, none⟩ = some (.int .u32 (x : Nat))) :
    Calls Try.prog 46 #[.int .i64 f, partV b] w fun e w' => e = .returned (kV (⟨13, (fN x 31 27 : Nat), f == 2⟩)) ∧ Grew w w' := by
  rw [hq]
  have HQ := Lib.hid hq
  clear hq
  rcases hf with rfl | rfl
  all_goals
    go_enter Try.func46, Try.ntmps46
    go_wp2_with fail
    refine (part_d x hx 31 27 (by decide) (by decide) (by decide) b _ (by go_simp)).mono ?_
    rintro e w1 ⟨rfl, n1, rfl⟩
    rw [HQ.out]
    go_wp2_with fail
    go_returns
    exact ⟨rfl, (by repeat (first | with_reducible exact Grew.refl _ | with_reducible refine Grew.alloc ?_ _ | with_reducible refine Grew.drewN ?_ _ | with_reducible refine Grew.drew1 ?_ | with_reducible refine Grew.setCell ?_ (by simp) _))⟩
set_option maxHeartbeats 1000000 in
theorem amo_12 (x : Nat) (hx : x < 4294967296) (f : Int) (hf : f = 2 ∨ f = 3) (hq : ((fN x 31 27 : Nat) : Int) = 12) (b : Nat) (w : World) (hb : b < w.heap.size) (hc : w.cell? ⟨b, 0, none⟩ = some (.int .u32 (x : Nat))) :
    Calls Try.prog 46 #[.int .i64 f, partV b] w fun e w' => e = .returned (kV (⟨13, (fN x 31 27 : Nat), f == 2⟩)) ∧ Grew w w' := by
  rw [hq]
  have HQ := Lib.hid hq
  clear hq
  rcases hf with rfl | rfl
  all_goals
    go_enter Try.func46, Try.ntmps46
    go_wp2_with fail
    refine (part_d x hx 31 27 (by decide) (by decide) (by decide) b _ (by go_simp)).mono ?_
    rintro e w1 ⟨rfl, n1, rfl⟩
    rw [HQ.out]
    go_wp2_with fail
    go_returns
    exact ⟨rfl, (by repeat (first | with_reducible exact Grew.refl _ | with_reducible refine Grew.alloc ?_ _ | with_reducible refine Grew.drewN ?_ _ | with_reducible refine Grew.drew1 ?_ | with_reducible refine Grew.setCell ?_ (by simp) _))⟩
set_option maxHeartbeats 1000000 in
theorem amo_16 (x : Nat) (hx : x < 4294967296) (f : Int) (hf : f = 2 ∨ f = 3) (hq : ((fN x 31 27 : Nat) : Int) = 16) (b : Nat) (w : World) (hb : b < w.heap.size) (hc : w.cell? ⟨b, 0, none⟩ = some (.int .u32 (x : Nat))) :
    Calls Try.prog 46 #[.int .i64 f, partV b] w fun e w' => e = .returned (kV (⟨13, (fN x 31 27 : Nat), f == 2⟩)) ∧ Grew w w' := by
  rw [hq]
  have HQ := Lib.hid hq
  clear hq
  rcases hf with rfl | rfl
  all_goals
    go_enter Try.func46, Try.ntmps46
    go_wp2_with fail
    refine (part_d x hx 31 27 (by decide) (by decide) (by decide) b _ (by go_simp)).mono ?_
    rintro e w1 ⟨rfl, n1, rfl⟩
    rw [HQ.out]
    go_wp2_with fail
    go_returns
    exact ⟨rfl, (by repeat (first | with_reducible exact Grew.refl _ | with_reducible refine Grew.alloc ?_ _ | with_reducible refine Grew.drewN ?_ _ | with_reducible refine Grew.drew1 ?_ | with_reducible refine Grew.setCell ?_ (by simp) _))⟩
set_option maxHeartbeats 1000000 in
theorem amo_20 (x : Nat) (hx : x < 4294967296) (f : Int) (hf : f = 2 ∨ f = 3) (hq : ((fN x 31 27 : Nat) : Int) = 20) (b : Nat) (w : World) (hb : b < w.heap.size) (hc : w.cell? ⟨b, 0, none⟩ = some (.int .u32 (x : Nat))) :
    Calls Try.prog 46 #[.int .i64 f, partV b] w fun e w' => e = .returned (kV (⟨13, (fN x 31 27 : Nat), f == 2⟩)) ∧ Grew w w' := by
  rw [hq]
  have HQ := Lib.hid hq
  clear hq
  rcases hf with rfl | rfl
  all_goals
    go_enter Try.func46, Try.ntmps46
    go_wp2_with fail
    refine (part_d x hx 31 27 (by decide) (by decide) (by decide) b _ (by go_simp)).mono ?_
    rintro e w1 ⟨rfl, n1, rfl⟩
    rw [HQ.out]
    go_wp2_with fail
    go_returns
    exact ⟨rfl, (by repeat (first | with_reducible exact Grew.refl _ | with_reducible refine Grew.alloc ?_ _ | with_reducible refine Grew.drewN ?_ _ | with_reducible refine Grew.drew1 ?_ | with_reducible refine Grew.setCell ?_ (by simp) _))⟩
set_option maxHeartbeats 1000000 in
theorem amo_24 (x : Nat) (hx : x < 4294967296) (f : Int) (hf : f = 2 ∨ f = 3) (hq : ((fN x 31 27 : Nat) : Int) = 24) (b : Nat) (w : World) (hb : b < w.heap.size) (hc : w.cell? ⟨b, 0, none⟩ = some (.int .u32 (x : Nat))) :
    Calls Try.prog 46 #[.int .i64 f, partV b] w fun e w' => e = .returned (kV (⟨13, (fN x 31 27 : Nat), f == 2⟩)) ∧ Grew w w' := by
  rw [hq]
  have HQ := Lib.hid hq
  clear hq
  rcases hf with rfl | rfl
  all_goals
    go_enter Try.func46, Try.ntmps46
    go_wp2_with fail
    refine (part_d x hx 31 27 (by decide) (by decide) (by decide) b _ (by go_simp)).mono ?_
    rintro e w1 ⟨rfl, n1, rfl⟩
    rw [HQ.out]
    go_wp2_with fail
    go_returns
    exact ⟨rfl, (by repeat (first | with_reducible exact Grew.refl _ | with_reducible refine Grew.alloc ?_ _ | with_reducible refine Grew.drewN ?_ _ | with_reducible refine Grew.drew1 ?_ | with_reducible refine Grew.setCell ?_ (by simp) _))⟩
set_option maxHeartbeats 1000000 in
theorem amo_28 (x : Nat) (hx : x < 4294967296) (f : Int) (hf : f = 2 ∨ f = 3) (hq : ((fN x 31 27 : Nat) : Int) = 28) (b : Nat) (w : World) (hb : b < w.heap.size) (hc : w.cell? ⟨b, 0, none⟩ = some (.int .u32 (x : Nat))) :
    Calls Try.prog 46 #[.int .i64 f, partV b] w fun e w' => e = .returned (kV (⟨13, (fN x 31 27 : Nat), f == 2⟩)) ∧ Grew w w' := by
  rw [hq]
  have HQ := Lib.hid hq
  clear hq
  rcases hf with rfl | rfl
  all_goals
    go_enter Try.func46, Try.ntmps46
    go_wp2_with fail
    refine (part_d x hx 31 27 (by decide) (by decide) (by decide) b _ (by go_simp)).mono ?_
    rintro e w1 ⟨rfl, n1, rfl⟩
    rw [HQ.out]
    go_wp2_with fail
    go_returns
    exact ⟨rfl, (by repeat (first | with_reducible exact Grew.refl _ | with_reducible refine Grew.alloc ?_ _ | with_reducible refine Grew.drewN ?_ _ | with_reducible refine Grew.drew1 ?_ | with_reducible refine Grew.setCell ?_ (by simp) _))⟩
set_option maxHeartbeats 1000000 in
theorem amo_2 (x : Nat) (hx : x < 4294967296) (f : Int) (hf : f = 2 ∨ f = 3) (hq : ((fN x 31 27 : Nat) : Int) = 2) (b : Nat) (w : World) (hb : b < w.heap.size) (hc : w.cell? ⟨b, 0, none⟩ = some (.int .u32 (x : Nat))) :
    Calls Try.prog 46 #[.int .i64 f, partV b] w fun e w' => e = .returned (kV (kOn (((fN x 24 20 : Nat) : Int) == 0) 13 (fN x 31 27 : Nat) (f == 2))) ∧ Grew w w' := by
  rw [hq]
  have HQ := Lib.hid hq
  clear hq
  rcases hf with rfl | rfl
  all_goals
    go_enter Try.func46, Try.ntmps46
    go_wp2_with fail
    refine (part_d x hx 31 27 (by decide) (by decide) (by decide) b _ (by go_simp)).mono ?_
    rintro e w1 ⟨rfl, n1, rfl⟩
    rw [HQ.out]
    go_wp2_with fail
    go_region_with (first | (go_at_call 40; refine (part_d x hx 24 20 (by decide) (by decide) (by decide) b _ (by go_simp)).mono ?_; rintro e w7 ⟨rfl, n7, rfl⟩) | (go_at_call 42; refine (only_c _ _ _ _ _).mono ?_; rintro e w8 ⟨rfl, rfl⟩))
    all_goals go_wp2_with fail
    all_goals (go_returns; exact ⟨rfl, (by repeat (first | with_reducible exact Grew.refl _ | with_reducible refine Grew.alloc ?_ _ | with_reducible refine Grew.drewN ?_ _ | with_reducible refine Grew.drew1 ?_ | with_reducible refine Grew.setCell ?_ (by simp) _))⟩)
set_option maxHeartbeats 1000000 in
theorem amo_no (x : Nat) (hx : x < 4294967296) (f : Int) (hf : f = 2 ∨ f = 3) (h0 : ¬ ((fN x 31 27 : Nat) : Int) = 0) (h1 : ¬ ((fN x 31 27 : Nat) : Int) = 1) (h3 : ¬ ((fN x 31 27 : Nat) : Int) = 3) (h4 : ¬ ((fN x 31 27 : Nat) : Int) = 4) (h8 : ¬ ((fN x 31 27 : Nat) : Int) = 8) (h12 : ¬ ((fN x 31 27 : Nat) : Int) = 12) (h16 : ¬ ((fN x 31 27 : Nat) : Int) = 16) (h20 : ¬ ((fN x 31 27 : Nat) : Int) = 20) (h24 : ¬ ((fN x 31 27 : Nat) : Int) = 24) (h28 : ¬ ((fN x 31 27 : Nat) : Int) = 28) (h2 : ¬ ((fN x 31 27 : Nat) : Int) = 2) (b : Nat) (w : World) (hb : b < w.heap.size) (hc : w.cell? ⟨b, 0, none⟩ = some (.int .u32 (x : Nat))) :
    Calls Try.prog 46 #[.int .i64 f, partV b] w fun e w' => e = .returned (kV (kNo)) ∧ Grew w w' := by
  have bq := fN_lt x 31 27 32 (by decide)
  rcases hf with rfl | rfl
  all_goals
    go_enter Try.func46, Try.ntmps46
    go_wp2_with fail
    refine (part_d x hx 31 27 (by decide) (by decide) (by decide) b _ (by go_simp)).mono ?_
    rintro e w1 ⟨rfl, n1, rfl⟩
    go_wp2_with fail
    go_returns
    exact ⟨rfl, (by repeat (first | with_reducible exact Grew.refl _ | with_reducible refine Grew.alloc ?_ _ | with_reducible refine Grew.drewN ?_ _ | with_reducible refine Grew.drew1 ?_ | with_reducible refine Grew.setCell ?_ (by simp) _))⟩
set_option maxHeartbeats 1000000 in
theorem amo_bad (x : Nat) (hx : x < 4294967296) (f : Int) (h2 : ¬ f = 2) (h3 : ¬ f = 3) (b : Nat) (w : World) (hb : b < w.heap.size) (hc : w.cell? ⟨b, 0, none⟩ = some (.int .u32 (x : Nat))) :
    Calls Try.prog 46 #[.int .i64 f, partV b] w fun e w' => e = .returned (kV (kNo)) ∧ Grew w w' := by
  have e2 : (f != 2) = true := by simp [h2]
  have e3 : (f != 3) = true := by simp [h3]
  have bq := fN_lt x 31 27 32 (by decide)
  go_enter Try.func46, Try.ntmps46
  go_wp2_with fail
  refine (part_d x hx 31 27 (by decide) (by decide) (by decide) b _ (by go_simp)).mono ?_
  rintro e w1 ⟨rfl, n1, rfl⟩
  go_wp2_with fail
  go_returns
  exact ⟨rfl, (by repeat (first | with_reducible exact Grew.refl _ | with_reducible refine Grew.alloc ?_ _ | with_reducible refine Grew.drewN ?_ _ | with_reducible refine Grew.drew1 ?_ | with_reducible refine Grew.setCell ?_ (by simp) _))⟩
theorem amoKind_c (x : Nat) (hx : x < 4294967296) (f : Int) (b : Nat) (w : World) (hb : b < w.heap.size) (hc : w.cell? ⟨b, 0, none⟩ = some (.int .u32 (x : Nat))) :
    Calls Try.prog 46 #[.int .i64 f, partV b] w fun e w' => e = .returned (kV (kAmo x f)) ∧ Grew w w' := by
  by_cases hf : f = 2 ∨ f = 3
  · by_cases ha : amoIs (fN x 31 27) = true
    · rw [show kAmo x f = ⟨13, (fN x 31 27 : Nat), f == 2⟩ by unfold kAmo; rw [if_pos hf, if_pos ha]]
      have ha' := ha
      simp only [amoIs, Bool.or_eq_true, beq_iff_eq] at ha'
      rcases ha' with ((((((((h | h) | h) | h) | h) | h) | h) | h) | h) | h
      · exact amo_0 x hx f hf (by omega) b w hb hc
      · exact amo_1 x hx f hf (by omega) b w hb hc
      · exact amo_3 x hx f hf (by omega) b w hb hc
      · exact amo_4 x hx f hf (by omega) b w hb hc
      · exact amo_8 x hx f hf (by omega) b w hb hc
      · exact amo_12 x hx f hf (by omega) b w hb hc
      · exact amo_16 x hx f hf (by omega) b w hb hc
      · exact amo_20 x hx f hf (by omega) b w hb hc
      · exact amo_24 x hx f hf (by omega) b w hb hc
      · exact amo_28 x hx f hf (by omega) b w hb hc
    · have hn := ha
      simp only [amoIs, Bool.or_eq_true, beq_iff_eq, not_or] at hn
      by_cases h2 : fN x 31 27 = 2
      · rw [show kAmo x f = kOn (((fN x 24 20 : Nat) : Int) == 0) 13 (fN x 31 27 : Nat) (f == 2) by unfold kAmo; rw [if_pos hf, if_neg ha, if_pos h2]]
        exact amo_2 x hx f hf (by omega) b w hb hc
      · rw [show kAmo x f = kNo by unfold kAmo; rw [if_pos hf, if_neg ha, if_neg h2]]
        exact amo_no x hx f hf (by omega) (by omega) (by omega) (by omega) (by omega) (by omega) (by omega) (by omega) (by omega) (by omega) (by omega) b w hb hc
  · rw [show kAmo x f = kNo by unfold kAmo; rw [if_neg hf]]
    exact amo_bad x hx f (fun h => hf (.inl h)) (fun h => hf (.inr h)) b w hb hc
end Go.Proofs.Ytgekmhcekkmdhaa
