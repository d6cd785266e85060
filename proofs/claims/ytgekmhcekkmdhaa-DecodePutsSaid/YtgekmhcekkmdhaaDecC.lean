/-
  Contracts of package decode: words that are looked at whole, and what is done in memory at once.
-/
import Derived.Test.YtgekmhcekkmdhaaDecA
import Derived.Deep.RegionWith
import Derived.StillTailTactics
set_option linter.unusedVariables false
set_option linter.unusedSimpArgs false
namespace Go.Proofs.Ytgekmhcekkmdhaa
open Go.RowKit

theorem fN_whole (x : Nat) (hx : x < 4294967296) : fN x 31 0 = x := by unfold fN; simp; omega
set_option maxHeartbeats 1000000 in
theorem sys_0 (x : Nat) (hx : x < 4294967296) (f g : Int) (hw : x = 115) (b : Nat) (w : World) (hb : b < w.heap.size) (hc : w.cell? ⟨b, 0, none⟩ = some (.int .u32 (x : Nat))) :
    Calls Try.prog 45 #[.int .i64 f, .int .i64 g, partV b] w fun e w' => e = .returned (kV (⟨11, 0, false⟩)) ∧ Grew w w' := by
  subst hw
  have e0 : fN 115 31 0 = 115 := by kernel_rfl
  have E0 := Lib.hid e0
  clear e0
  go_enter Try.func45, Try.ntmps45
  go_wp2_with fail
  refine (part_d 115 hx 31 0 (by decide) (by decide) (by decide) b _ (by go_simp)).mono ?_
  rintro e w1 ⟨rfl, n1, rfl⟩
  rw [E0.out]
  go_wp2_with fail
  go_returns
  exact ⟨rfl, (by repeat (first | with_reducible exact Grew.refl _ | with_reducible refine Grew.alloc ?_ _ | with_reducible refine Grew.drewN ?_ _ | with_reducible refine Grew.drew1 ?_ | with_reducible refine Grew.setCell ?_ (by simp) _))⟩
set_option maxHeartbeats 1000000 in
theorem sys_1 (x : Nat) (hx : x < 4294967296) (f g : Int) (hw : x = 1048691) (b : Nat) (w : World) (hb : b < w.heap.size) (hc : w.cell? ⟨b, 0, none⟩ = some (.int .u32 (x : Nat))) :
    Calls Try.prog 45 #[.int .i64 f, .int .i64 g, partV b] w fun e w' => e = .returned (kV (⟨11, 1, false⟩)) ∧ Grew w w' := by
  subst hw
  have e0 : fN 1048691 31 0 = 1048691 := by kernel_rfl
  have E0 := Lib.hid e0
  clear e0
  go_enter Try.func45, Try.ntmps45
  go_wp2_with fail
  refine (part_d 1048691 hx 31 0 (by decide) (by decide) (by decide) b _ (by go_simp)).mono ?_
  rintro e w1 ⟨rfl, n1, rfl⟩
  rw [E0.out]
  go_wp2_with fail
  go_returns
  exact ⟨rfl, (by repeat (first | with_reducible exact Grew.refl _ | with_reducible refine Grew.alloc ?_ _ | with_reducible refine Grew.drewN ?_ _ | with_reducible refine Grew.drew1 ?_ | with_reducible refine Grew.setCell ?_ (by simp) _))⟩
set_option maxHeartbeats 1000000 in
theorem sys_2 (x : Nat) (hx : x < 4294967296) (f g : Int) (hw : x = 270532723) (b : Nat) (w : World) (hb : b < w.heap.size) (hc : w.cell? ⟨b, 0, none⟩ = some (.int .u32 (x : Nat))) :
    Calls Try.prog 45 #[.int .i64 f, .int .i64 g, partV b] w fun e w' => e = .returned (kV (⟨11, 2, false⟩)) ∧ Grew w w' := by
  subst hw
  have e0 : fN 270532723 31 0 = 270532723 := by kernel_rfl
  have E0 := Lib.hid e0
  clear e0
  go_enter Try.func45, Try.ntmps45
  go_wp2_with fail
  refine (part_d 270532723 hx 31 0 (by decide) (by decide) (by decide) b _ (by go_simp)).mono ?_
  rintro e w1 ⟨rfl, n1, rfl⟩
  rw [E0.out]
  go_wp2_with fail
  go_returns
  exact ⟨rfl, (by repeat (first | with_reducible exact Grew.refl _ | with_reducible refine Grew.alloc ?_ _ | with_reducible refine Grew.drewN ?_ _ | with_reducible refine Grew.drew1 ?_ | with_reducible refine Grew.setCell ?_ (by simp) _))⟩
set_option maxHeartbeats 1000000 in
theorem sys_3 (x : Nat) (hx : x < 4294967296) (f g : Int) (hw : x = 807403635) (b : Nat) (w : World) (hb : b < w.heap.size) (hc : w.cell? ⟨b, 0, none⟩ = some (.int .u32 (x : Nat))) :
    Calls Try.prog 45 #[.int .i64 f, .int .i64 g, partV b] w fun e w' => e = .returned (kV (⟨11, 3, false⟩)) ∧ Grew w w' := by
  subst hw
  have e0 : fN 807403635 31 0 = 807403635 := by kernel_rfl
  have E0 := Lib.hid e0
  clear e0
  go_enter Try.func45, Try.ntmps45
  go_wp2_with fail
  refine (part_d 807403635 hx 31 0 (by decide) (by decide) (by decide) b _ (by go_simp)).mono ?_
  rintro e w1 ⟨rfl, n1, rfl⟩
  rw [E0.out]
  go_wp2_with fail
  go_returns
  exact ⟨rfl, (by repeat (first | with_reducible exact Grew.refl _ | with_reducible refine Grew.alloc ?_ _ | with_reducible refine Grew.drewN ?_ _ | with_reducible refine Grew.drew1 ?_ | with_reducible refine Grew.setCell ?_ (by simp) _))⟩
set_option maxHeartbeats 1000000 in
theorem sys_4 (x : Nat) (hx : x < 4294967296) (f g : Int) (hw : x = 273678451) (b : Nat) (w : World) (hb : b < w.heap.size) (hc : w.cell? ⟨b, 0, none⟩ = some (.int .u32 (x : Nat))) :
    Calls Try.prog 45 #[.int .i64 f, .int .i64 g, partV b] w fun e w' => e = .returned (kV (⟨11, 4, false⟩)) ∧ Grew w w' := by
  subst hw
  have e0 : fN 273678451 31 0 = 273678451 := by kernel_rfl
  have E0 := Lib.hid e0
  clear e0
  go_enter Try.func45, Try.ntmps45
  go_wp2_with fail
  refine (part_d 273678451 hx 31 0 (by decide) (by decide) (by decide) b _ (by go_simp)).mono ?_
  rintro e w1 ⟨rfl, n1, rfl⟩
  rw [E0.out]
  go_wp2_with fail
  go_returns
  exact ⟨rfl, (by repeat (first | with_reducible exact Grew.refl _ | with_reducible refine Grew.alloc ?_ _ | with_reducible refine Grew.drewN ?_ _ | with_reducible refine Grew.drew1 ?_ | with_reducible refine Grew.setCell ?_ (by simp) _))⟩
set_option maxHeartbeats 1000000 in
theorem sys_csr (x : Nat) (hx : x < 4294967296) (f g : Int) (h0 : ¬ ((x : Nat) : Int) = 115) (h1 : ¬ ((x : Nat) : Int) = 1048691) (h2 : ¬ ((x : Nat) : Int) = 270532723) (h3 : ¬ ((x : Nat) : Int) = 807403635) (h4 : ¬ ((x : Nat) : Int) = 273678451) (hf : ¬ f = 0) (b : Nat) (w : World) (hb : b < w.heap.size) (hc : w.cell? ⟨b, 0, none⟩ = some (.int .u32 (x : Nat))) :
    Calls Try.prog 45 #[.int .i64 f, .int .i64 g, partV b] w fun e w' => e = .returned (kV (kOn (f != 4) 12 f false)) ∧ Grew w w' := by
  have e0 := fN_whole x hx
  have E0 := Lib.hid e0
  clear e0
  go_enter Try.func45, Try.ntmps45
  go_wp2_with fail
  refine (part_d x hx 31 0 (by decide) (by decide) (by decide) b _ (by go_simp)).mono ?_
  rintro e w1 ⟨rfl, n1, rfl⟩
  rw [E0.out]
  go_wp2_with fail
  refine (only_c _ _ _ _ _).mono ?_
  rintro e w5 ⟨rfl, rfl⟩
  go_wp2_with fail
  go_returns
  exact ⟨rfl, (by repeat (first | with_reducible exact Grew.refl _ | with_reducible refine Grew.alloc ?_ _ | with_reducible refine Grew.drewN ?_ _ | with_reducible refine Grew.drew1 ?_ | with_reducible refine Grew.setCell ?_ (by simp) _))⟩
set_option maxHeartbeats 1000000 in
theorem sys_no (x : Nat) (hx : x < 4294967296) (f g : Int) (h0 : ¬ ((x : Nat) : Int) = 115) (h1 : ¬ ((x : Nat) : Int) = 1048691) (h2 : ¬ ((x : Nat) : Int) = 270532723) (h3 : ¬ ((x : Nat) : Int) = 807403635) (h4 : ¬ ((x : Nat) : Int) = 273678451) (hf : f = 0) (hg : (g == 9) = false) (b : Nat) (w : World) (hb : b < w.heap.size) (hc : w.cell? ⟨b, 0, none⟩ = some (.int .u32 (x : Nat))) :
    Calls Try.prog 45 #[.int .i64 f, .int .i64 g, partV b] w fun e w' => e = .returned (kV (kNo)) ∧ Grew w w' := by
  subst hf
  have e0 := fN_whole x hx
  have E0 := Lib.hid e0
  clear e0
  go_enter Try.func45, Try.ntmps45
  go_wp2_with fail
  refine (part_d x hx 31 0 (by decide) (by decide) (by decide) b _ (by go_simp)).mono ?_
  rintro e w1 ⟨rfl, n1, rfl⟩
  rw [E0.out]
  go_wp2_with fail
  refine wp_region_still_tail 8 (by kernel_rfl) (by kernel_rfl) ?_
  simp only [List.take_succ_cons, List.take_zero, List.drop_succ_cons, List.drop_zero]
  change wpStill _ _ (World.drew _) (fun a' => wpList _ _ _ _ a' (World.drew _)) _ _
  repeat still_step
  refine wpStill_nil ?_
  go_wp2_with fail
  refine (only_c _ _ _ _ _).mono ?_
  rintro e w5 ⟨rfl, rfl⟩
  go_wp2_with fail
  go_returns
  exact ⟨rfl, (by repeat (first | with_reducible exact Grew.refl _ | with_reducible refine Grew.alloc ?_ _ | with_reducible refine Grew.drewN ?_ _ | with_reducible refine Grew.drew1 ?_ | with_reducible refine Grew.setCell ?_ (by simp) _))⟩
set_option maxHeartbeats 1000000 in
theorem sys_fence (x : Nat) (hx : x < 4294967296) (f g : Int) (h0 : ¬ ((x : Nat) : Int) = 115) (h1 : ¬ ((x : Nat) : Int) = 1048691) (h2 : ¬ ((x : Nat) : Int) = 270532723) (h3 : ¬ ((x : Nat) : Int) = 807403635) (h4 : ¬ ((x : Nat) : Int) = 273678451) (hf : f = 0) (hg : g = 9) (b : Nat) (w : World) (hb : b < w.heap.size) (hc : w.cell? ⟨b, 0, none⟩ = some (.int .u32 (x : Nat))) :
    Calls Try.prog 45 #[.int .i64 f, .int .i64 g, partV b] w fun e w' => e = .returned (kV (kOn (((fN x 11 7 : Nat) : Int) == 0) 11 5 false)) ∧ Grew w w' := by
  subst hf
  subst hg
  have e0 := fN_whole x hx
  have E0 := Lib.hid e0
  clear e0
  go_enter Try.func45, Try.ntmps45
  go_wp2_with fail
  refine (part_d x hx 31 0 (by decide) (by decide) (by decide) b _ (by go_simp)).mono ?_
  rintro e w1 ⟨rfl, n1, rfl⟩
  rw [E0.out]
  go_wp2_with fail
  go_region_with (first | (go_at_call 40; refine (part_d x hx 11 7 (by decide) (by decide) (by decide) b _ (by go_simp)).mono ?_; rintro e w7 ⟨rfl, n7, rfl⟩) | (go_at_call 42; refine (only_c _ _ _ _ _).mono ?_; rintro e w8 ⟨rfl, rfl⟩))
  all_goals go_wp2_with fail
  all_goals (go_returns; exact ⟨rfl, (by repeat (first | with_reducible exact Grew.refl _ | with_reducible refine Grew.alloc ?_ _ | with_reducible refine Grew.drewN ?_ _ | with_reducible refine Grew.drew1 ?_ | with_reducible refine Grew.setCell ?_ (by simp) _))⟩)
theorem systemKind_c (x : Nat) (hx : x < 4294967296) (f g : Int) (b : Nat) (w : World) (hb : b < w.heap.size) (hc : w.cell? ⟨b, 0, none⟩ = some (.int .u32 (x : Nat))) :
    Calls Try.prog 45 #[.int .i64 f, .int .i64 g, partV b] w fun e w' => e = .returned (kV (kSys x f g)) ∧ Grew w w' := by
  by_cases h0 : x = 115
  · rw [show kSys x f g = ⟨11, 0, false⟩ by unfold kSys; rw [if_pos h0]]
    exact sys_0 x hx f g h0 b w hb hc
  · skip
    by_cases h1 : x = 1048691
    · rw [show kSys x f g = ⟨11, 1, false⟩ by unfold kSys; rw [if_neg h0, if_pos h1]]
      exact sys_1 x hx f g h1 b w hb hc
    · skip
      by_cases h2 : x = 270532723
      · rw [show kSys x f g = ⟨11, 2, false⟩ by unfold kSys; rw [if_neg h0, if_neg h1, if_pos h2]]
        exact sys_2 x hx f g h2 b w hb hc
      · skip
        by_cases h3 : x = 807403635
        · rw [show kSys x f g = ⟨11, 3, false⟩ by unfold kSys; rw [if_neg h0, if_neg h1, if_neg h2, if_pos h3]]
          exact sys_3 x hx f g h3 b w hb hc
        · skip
          by_cases h4 : x = 273678451
          · rw [show kSys x f g = ⟨11, 4, false⟩ by unfold kSys; rw [if_neg h0, if_neg h1, if_neg h2, if_neg h3, if_pos h4]]
            exact sys_4 x hx f g h4 b w hb hc
          · skip
            by_cases hf : f = 0
            · by_cases hg : g = 9
              · rw [show kSys x f g = kOn (((fN x 11 7 : Nat) : Int) == 0) 11 5 false by unfold kSys; rw [if_neg h0, if_neg h1, if_neg h2, if_neg h3, if_neg h4, if_neg (by simp [hf])]; simp [hg]]
                exact sys_fence x hx f g (by omega) (by omega) (by omega) (by omega) (by omega) hf hg b w hb hc
              · have hg' : (g == 9) = false := by simp [hg]
                rw [show kSys x f g = kNo by unfold kSys; rw [if_neg h0, if_neg h1, if_neg h2, if_neg h3, if_neg h4, if_neg (by simp [hf]), hg']; rfl]
                exact sys_no x hx f g (by omega) (by omega) (by omega) (by omega) (by omega) hf hg' b w hb hc
            · rw [show kSys x f g = kOn (f != 4) 12 f false by unfold kSys; rw [if_neg h0, if_neg h1, if_neg h2, if_neg h3, if_neg h4, if_pos hf]]
              exact sys_csr x hx f g (by omega) (by omega) (by omega) (by omega) (by omega) hf b w hb hc
end Go.Proofs.Ytgekmhcekkmdhaa
