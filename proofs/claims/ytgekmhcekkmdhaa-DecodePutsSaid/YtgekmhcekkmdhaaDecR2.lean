import Derived.Test.YtgekmhcekkmdhaaDecR
set_option linter.unusedVariables false
set_option linter.unusedSimpArgs false
namespace Go.Proofs.Ytgekmhcekkmdhaa
open Go.RowKit

theorem r3z (y : Int) (h0 : 0 ≤ y) (hy : y < 18446744073709551616) (n : Int) (w : World) :
    Calls Try.prog 50 #[.int .u64 y, .int .i64 n] w fun e w' => e = .returned (.int .u64 (sextV y n)) ∧ w' = w := by
  go_enter Try.func50, Try.ntmps50
  go_wp2_with fail
  refine (refSext_c y n h0 hy _).mono ?_
  rintro e w' ⟨rfl, h⟩
  obtain rfl := h.symm
  go_wp2_with fail
  go_ret
  exact ⟨rfl, rfl⟩
theorem wrapIn (x : Int) : 0 ≤ IntKind.u64.wrap x ∧ IntKind.u64.wrap x < 18446744073709551616 := by
  rw [wrap_u64]
  omega

set_option maxRecDepth 100000 in
set_option maxHeartbeats 2000000 in
theorem rd_55 (x : Nat) (hx : x < 4294967296) (ho : fN x 6 0 = 55) (w : World) :
    Calls Try.prog 28 #[.int .u32 (x : Nat)] w fun e w' => e = .returned (.tuple #[.agg #[.int .i64 1, .int .i64 0, .bool false, .int .i64 (fN x 11 7 : Nat), .int .i64 0, .int .i64 0, .int .u64 (sextV ((fN x 31 12 * 4096 : Nat) : Int) 32)], .bool true]) ∧ Grew w w' := by
  have h5 : fN x 5 5 = 1 := by
    have e1 : fN x 5 5 = x / 32 % 2 := by simp [fN]
    have e2 : fN x 6 0 = x % 128 := by simp [fN]
    omega
  have h5' : ((fN x 5 5 : Nat) : Int) = 1 := by omega
  have H5 := Lib.hid h5'
  clear h5 h5'
  have ho' : ((fN x 6 0 : Nat) : Int) = 55 := by omega
  have HO := Lib.hid ho'
  clear ho ho'
  have b11_7 := fN_lt x 11 7 32 (by decide)
  have b19_15 := fN_lt x 19 15 32 (by decide)
  have b24_20 := fN_lt x 24 20 32 (by decide)
  have b14_12 := fN_lt x 14 12 8 (by decide)
  have b31_20 := fN_lt x 31 20 4096 (by decide)
  have b31_25 := fN_lt x 31 25 128 (by decide)
  have b31_31 := fN_lt x 31 31 2 (by decide)
  have b30_21 := fN_lt x 30 21 1024 (by decide)
  have b20_20 := fN_lt x 20 20 2 (by decide)
  have b19_12 := fN_lt x 19 12 256 (by decide)
  have b30_25 := fN_lt x 30 25 64 (by decide)
  have b11_8 := fN_lt x 11 8 16 (by decide)
  have b7_7 := fN_lt x 7 7 2 (by decide)
  have b31_12 := fN_lt x 31 12 1048576 (by decide)
  have b31_27 := fN_lt x 31 27 32 (by decide)
  have b31_26 := fN_lt x 31 26 64 (by decide)
  go_enter Try.func28, Try.ntmps28
  go_wp2_with fail
  refine (r3f x hx 11 7 (by decide) (by decide) (by decide) _).mono ?_
  rintro e w1 ⟨rfl, h1⟩
  obtain rfl := h1.symm
  go_wp2_with fail
  refine (r3f x hx 19 15 (by decide) (by decide) (by decide) _).mono ?_
  rintro e w1 ⟨rfl, h1⟩
  obtain rfl := h1.symm
  go_wp2_with fail
  refine (r3f x hx 24 20 (by decide) (by decide) (by decide) _).mono ?_
  rintro e w1 ⟨rfl, h1⟩
  obtain rfl := h1.symm
  go_wp2_with fail
  refine (r3f x hx 14 12 (by decide) (by decide) (by decide) _).mono ?_
  rintro e w1 ⟨rfl, h1⟩
  obtain rfl := h1.symm
  go_wp2_with fail
  refine (r3f x hx 6 0 (by decide) (by decide) (by decide) _).mono ?_
  rintro e w1 ⟨rfl, h1⟩
  obtain rfl := h1.symm
  rw [HO.out]
  go_wp2_with fail
  have hw14 : IntKind.i64.wrap ((fN x 14 12 : Nat) : Int) = ((fN x 14 12 : Nat) : Int) := IntWalk.i64_in _ (by omega)
  go_region_held3 (fun w' => w'.cell? ⟨w.heap.size + 1, 3, none⟩ = some (.int .i64 (fN x 11 7 : Nat)) ∧ w'.cell? ⟨w.heap.size + 1, 4, none⟩ = some (.int .i64 (fN x 19 15 : Nat)) ∧ w'.cell? ⟨w.heap.size + 1, 5, none⟩ = some (.int .i64 (fN x 24 20 : Nat))) (go_keep) (first | (go_at_call 49; refine (r3f x hx _ _ (by decide) (by decide) (by decide) _).mono ?_; rintro e w' ⟨rfl, rfl⟩) | (go_at_call 50; refine (r3z _ (wrapIn _).1 (wrapIn _).2 _ _).mono ?_; rintro e w' ⟨rfl, rfl⟩))
  all_goals (
  go_wp2_with fail
  refine (r3f x hx 5 5 (by decide) (by decide) (by decide) _).mono ?_
  rintro e w1 ⟨rfl, h1⟩
  obtain rfl := h1.symm
  rw [H5.out]
  go_wp2_with fail
  go_returns
  exact ⟨rfl, (by repeat (first | with_reducible exact Grew.refl _ | with_reducible refine Grew.alloc ?_ _ | with_reducible refine Grew.drewN ?_ _ | with_reducible refine Grew.drew1 ?_ | with_reducible refine Grew.setCell ?_ (by simp) _))⟩
  )
set_option maxRecDepth 100000 in
set_option maxHeartbeats 2000000 in
theorem rd_23 (x : Nat) (hx : x < 4294967296) (ho : fN x 6 0 = 23) (w : World) :
    Calls Try.prog 28 #[.int .u32 (x : Nat)] w fun e w' => e = .returned (.tuple #[.agg #[.int .i64 2, .int .i64 0, .bool false, .int .i64 (fN x 11 7 : Nat), .int .i64 0, .int .i64 0, .int .u64 (sextV ((fN x 31 12 * 4096 : Nat) : Int) 32)], .bool true]) ∧ Grew w w' := by
  have h5 : fN x 5 5 = 0 := by
    have e1 : fN x 5 5 = x / 32 % 2 := by simp [fN]
    have e2 : fN x 6 0 = x % 128 := by simp [fN]
    omega
  have h5' : ((fN x 5 5 : Nat) : Int) = 0 := by omega
  have H5 := Lib.hid h5'
  clear h5 h5'
  have ho' : ((fN x 6 0 : Nat) : Int) = 23 := by omega
  have HO := Lib.hid ho'
  clear ho ho'
  have b11_7 := fN_lt x 11 7 32 (by decide)
  have b19_15 := fN_lt x 19 15 32 (by decide)
  have b24_20 := fN_lt x 24 20 32 (by decide)
  have b14_12 := fN_lt x 14 12 8 (by decide)
  have b31_20 := fN_lt x 31 20 4096 (by decide)
  have b31_25 := fN_lt x 31 25 128 (by decide)
  have b31_31 := fN_lt x 31 31 2 (by decide)
  have b30_21 := fN_lt x 30 21 1024 (by decide)
  have b20_20 := fN_lt x 20 20 2 (by decide)
  have b19_12 := fN_lt x 19 12 256 (by decide)
  have b30_25 := fN_lt x 30 25 64 (by decide)
  have b11_8 := fN_lt x 11 8 16 (by decide)
  have b7_7 := fN_lt x 7 7 2 (by decide)
  have b31_12 := fN_lt x 31 12 1048576 (by decide)
  have b31_27 := fN_lt x 31 27 32 (by decide)
  have b31_26 := fN_lt x 31 26 64 (by decide)
  go_enter Try.func28, Try.ntmps28
  go_wp2_with fail
  refine (r3f x hx 11 7 (by decide) (by decide) (by decide) _).mono ?_
  rintro e w1 ⟨rfl, h1⟩
  obtain rfl := h1.symm
  go_wp2_with fail
  refine (r3f x hx 19 15 (by decide) (by decide) (by decide) _).mono ?_
  rintro e w1 ⟨rfl, h1⟩
  obtain rfl := h1.symm
  go_wp2_with fail
  refine (r3f x hx 24 20 (by decide) (by decide) (by decide) _).mono ?_
  rintro e w1 ⟨rfl, h1⟩
  obtain rfl := h1.symm
  go_wp2_with fail
  refine (r3f x hx 14 12 (by decide) (by decide) (by decide) _).mono ?_
  rintro e w1 ⟨rfl, h1⟩
  obtain rfl := h1.symm
  go_wp2_with fail
  refine (r3f x hx 6 0 (by decide) (by decide) (by decide) _).mono ?_
  rintro e w1 ⟨rfl, h1⟩
  obtain rfl := h1.symm
  rw [HO.out]
  go_wp2_with fail
  have hw14 : IntKind.i64.wrap ((fN x 14 12 : Nat) : Int) = ((fN x 14 12 : Nat) : Int) := IntWalk.i64_in _ (by omega)
  go_region_held3 (fun w' => w'.cell? ⟨w.heap.size + 1, 3, none⟩ = some (.int .i64 (fN x 11 7 : Nat)) ∧ w'.cell? ⟨w.heap.size + 1, 4, none⟩ = some (.int .i64 (fN x 19 15 : Nat)) ∧ w'.cell? ⟨w.heap.size + 1, 5, none⟩ = some (.int .i64 (fN x 24 20 : Nat))) (go_keep) (first | (go_at_call 49; refine (r3f x hx _ _ (by decide) (by decide) (by decide) _).mono ?_; rintro e w' ⟨rfl, rfl⟩) | (go_at_call 50; refine (r3z _ (wrapIn _).1 (wrapIn _).2 _ _).mono ?_; rintro e w' ⟨rfl, rfl⟩))
  all_goals (
  go_wp2_with fail
  refine (r3f x hx 5 5 (by decide) (by decide) (by decide) _).mono ?_
  rintro e w1 ⟨rfl, h1⟩
  obtain rfl := h1.symm
  rw [H5.out]
  go_wp2_with fail
  go_returns
  exact ⟨rfl, (by repeat (first | with_reducible exact Grew.refl _ | with_reducible refine Grew.alloc ?_ _ | with_reducible refine Grew.drewN ?_ _ | with_reducible refine Grew.drew1 ?_ | with_reducible refine Grew.setCell ?_ (by simp) _))⟩
  )
end Go.Proofs.Ytgekmhcekkmdhaa
