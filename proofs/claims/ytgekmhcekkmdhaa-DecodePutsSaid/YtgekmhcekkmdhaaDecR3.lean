import Derived.Test.YtgekmhcekkmdhaaDecR2
set_option linter.unusedVariables false
set_option linter.unusedSimpArgs false
namespace Go.Proofs.Ytgekmhcekkmdhaa
open Go.RowKit

theorem bitsIn (a b : Int) : 0 ≤ bits .or .u64 a b ∧ bits .or .u64 a b < 18446744073709551616 := by
  show 0 ≤ IntKind.u64.wrap ((BitVec.ofInt 64 a ||| BitVec.ofInt 64 b).toNat : Int) ∧ IntKind.u64.wrap ((BitVec.ofInt 64 a ||| BitVec.ofInt 64 b).toNat : Int) < 18446744073709551616
  exact wrapIn _

set_option maxRecDepth 100000 in
set_option maxHeartbeats 2000000 in
theorem rd_35 (x : Nat) (hx : x < 4294967296) (ho : fN x 6 0 = 35) (w : World) :
    Calls Try.prog 28 #[.int .u32 (x : Nat)] w fun e w' => e = .returned (.tuple #[.agg #[.int .i64 7, .int .i64 (fN x 14 12 : Nat), .bool false, .int .i64 0, .int .i64 (fN x 19 15 : Nat), .int .i64 (fN x 24 20 : Nat), .int .u64 (sextV ((fN x 31 25 * 32 ||| fN x 11 7 : Nat) : Int) 12)], .bool (decide (((fN x 14 12 : Nat) : Int) ≤ 3))]) ∧ Grew w w' := by
  have ho' : ((fN x 6 0 : Nat) : Int) = 35 := by omega
  have HO := Lib.hid ho'
  clear ho ho'
  have b11_7 := fN_lt x 11 7 32 (by decide)
  have b19_15 := fN_lt x 19 15 32 (by decide)
  have b24_20 := fN_lt x 24 20 32 (by decide)
  have b14_12 := fN_lt x 14 12 8 (by decide)
  have b31_20 := fN_lt x 31 20 4096 (by decide)
  have b31_25 := fN_lt x 31 25 128 (by decide)
  have b31_31 := fN_lt x 31 31 2 (by decide)
  have b30_21 := fN_lt x 30 21 1024 (by decide)
  have b20_20 := fN_lt x 20 20 2 (by decide)
  have b19_12 := fN_lt x 19 12 256 (by decide)
  have b30_25 := fN_lt x 30 25 64 (by decide)
  have b11_8 := fN_lt x 11 8 16 (by decide)
  have b7_7 := fN_lt x 7 7 2 (by decide)
  have b31_12 := fN_lt x 31 12 1048576 (by decide)
  have b31_27 := fN_lt x 31 27 32 (by decide)
  have b31_26 := fN_lt x 31 26 64 (by decide)
  go_enter Try.func28, Try.ntmps28
  go_wp2_with fail
  refine (r3f x hx 11 7 (by decide) (by decide) (by decide) _).mono ?_
  rintro e w1 ⟨rfl, h1⟩
  obtain rfl := h1.symm
  go_wp2_with fail
  refine (r3f x hx 19 15 (by decide) (by decide) (by decide) _).mono ?_
  rintro e w1 ⟨rfl, h1⟩
  obtain rfl := h1.symm
  go_wp2_with fail
  refine (r3f x hx 24 20 (by decide) (by decide) (by decide) _).mono ?_
  rintro e w1 ⟨rfl, h1⟩
  obtain rfl := h1.symm
  go_wp2_with fail
  refine (r3f x hx 14 12 (by decide) (by decide) (by decide) _).mono ?_
  rintro e w1 ⟨rfl, h1⟩
  obtain rfl := h1.symm
  go_wp2_with fail
  refine (r3f x hx 6 0 (by decide) (by decide) (by decide) _).mono ?_
  rintro e w1 ⟨rfl, h1⟩
  obtain rfl := h1.symm
  rw [HO.out]
  go_wp2_with fail
  have hw14 : IntKind.i64.wrap ((fN x 14 12 : Nat) : Int) = ((fN x 14 12 : Nat) : Int) := IntWalk.i64_in _ (by omega)
  go_region_held3 (fun w' => w'.cell? ⟨w.heap.size + 1, 3, none⟩ = some (.int .i64 (fN x 11 7 : Nat)) ∧ w'.cell? ⟨w.heap.size + 1, 4, none⟩ = some (.int .i64 (fN x 19 15 : Nat)) ∧ w'.cell? ⟨w.heap.size + 1, 5, none⟩ = some (.int .i64 (fN x 24 20 : Nat))) (go_keep) (first | (go_at_call 49; refine (r3f x hx _ _ (by decide) (by decide) (by decide) _).mono ?_; rintro e w' ⟨rfl, rfl⟩) | (go_at_call 50; refine (r3z _ (bitsIn _ _).1 (bitsIn _ _).2 _ _).mono ?_; rintro e w' ⟨rfl, rfl⟩))
  go_wp2_with fail
  all_goals (
  go_returns
  refine ⟨?_, (by repeat (first | with_reducible exact Grew.refl _ | with_reducible refine Grew.alloc ?_ _ | with_reducible refine Grew.drewN ?_ _ | with_reducible refine Grew.drew1 ?_ | with_reducible refine Grew.setCell ?_ (by simp) _))⟩
  simp (disch := (repeat (first | omega | apply or64_lt))) only [mulc, or64, or64_lit, wrap64c]
  )
set_option maxRecDepth 100000 in
set_option maxHeartbeats 2000000 in
theorem rd_111 (x : Nat) (hx : x < 4294967296) (ho : fN x 6 0 = 111) (w : World) :
    Calls Try.prog 28 #[.int .u32 (x : Nat)] w fun e w' => e = .returned (.tuple #[.agg #[.int .i64 3, .int .i64 0, .bool false, .int .i64 (fN x 11 7 : Nat), .int .i64 0, .int .i64 0, .int .u64 (sextV ((fN x 31 31 * 1048576 ||| fN x 30 21 * 2 ||| fN x 20 20 * 2048 ||| fN x 19 12 * 4096 : Nat) : Int) 21)], .bool true]) ∧ Grew w w' := by
  have ho' : ((fN x 6 0 : Nat) : Int) = 111 := by omega
  have HO := Lib.hid ho'
  clear ho ho'
  have b11_7 := fN_lt x 11 7 32 (by decide)
  have b19_15 := fN_lt x 19 15 32 (by decide)
  have b24_20 := fN_lt x 24 20 32 (by decide)
  have b14_12 := fN_lt x 14 12 8 (by decide)
  have b31_20 := fN_lt x 31 20 4096 (by decide)
  have b31_25 := fN_lt x 31 25 128 (by decide)
  have b31_31 := fN_lt x 31 31 2 (by decide)
  have b30_21 := fN_lt x 30 21 1024 (by decide)
  have b20_20 := fN_lt x 20 20 2 (by decide)
  have b19_12 := fN_lt x 19 12 256 (by decide)
  have b30_25 := fN_lt x 30 25 64 (by decide)
  have b11_8 := fN_lt x 11 8 16 (by decide)
  have b7_7 := fN_lt x 7 7 2 (by decide)
  have b31_12 := fN_lt x 31 12 1048576 (by decide)
  have b31_27 := fN_lt x 31 27 32 (by decide)
  have b31_26 := fN_lt x 31 26 64 (by decide)
  go_enter Try.func28, Try.ntmps28
  go_wp2_with fail
  refine (r3f x hx 11 7 (by decide) (by decide) (by decide) _).mono ?_
  rintro e w1 ⟨rfl, h1⟩
  obtain rfl := h1.symm
  go_wp2_with fail
  refine (r3f x hx 19 15 (by decide) (by decide) (by decide) _).mono ?_
  rintro e w1 ⟨rfl, h1⟩
  obtain rfl := h1.symm
  go_wp2_with fail
  refine (r3f x hx 24 20 (by decide) (by decide) (by decide) _).mono ?_
  rintro e w1 ⟨rfl, h1⟩
  obtain rfl := h1.symm
  go_wp2_with fail
  refine (r3f x hx 14 12 (by decide) (by decide) (by decide) _).mono ?_
  rintro e w1 ⟨rfl, h1⟩
  obtain rfl := h1.symm
  go_wp2_with fail
  refine (r3f x hx 6 0 (by decide) (by decide) (by decide) _).mono ?_
  rintro e w1 ⟨rfl, h1⟩
  obtain rfl := h1.symm
  rw [HO.out]
  go_wp2_with fail
  refine (r3f x hx 31 31 (by decide) (by decide) (by decide) _).mono ?_
  rintro e w1 ⟨rfl, h1⟩
  obtain rfl := h1.symm
  go_wp2_with fail
  refine (r3f x hx 30 21 (by decide) (by decide) (by decide) _).mono ?_
  rintro e w1 ⟨rfl, h1⟩
  obtain rfl := h1.symm
  go_wp2_with fail
  refine (r3f x hx 20 20 (by decide) (by decide) (by decide) _).mono ?_
  rintro e w1 ⟨rfl, h1⟩
  obtain rfl := h1.symm
  go_wp2_with fail
  refine (r3f x hx 19 12 (by decide) (by decide) (by decide) _).mono ?_
  rintro e w1 ⟨rfl, h1⟩
  obtain rfl := h1.symm
  go_wp2_with fail
  have hw14 : IntKind.i64.wrap ((fN x 14 12 : Nat) : Int) = ((fN x 14 12 : Nat) : Int) := IntWalk.i64_in _ (by omega)
  go_region_held3 (fun w' => w'.cell? ⟨w.heap.size + 1, 3, none⟩ = some (.int .i64 (fN x 11 7 : Nat)) ∧ w'.cell? ⟨w.heap.size + 1, 4, none⟩ = some (.int .i64 (fN x 19 15 : Nat)) ∧ w'.cell? ⟨w.heap.size + 1, 5, none⟩ = some (.int .i64 (fN x 24 20 : Nat))) (go_keep) (first | (go_at_call 49; refine (r3f x hx _ _ (by decide) (by decide) (by decide) _).mono ?_; rintro e w' ⟨rfl, rfl⟩) | (go_at_call 50; refine (r3z _ (bitsIn _ _).1 (bitsIn _ _).2 _ _).mono ?_; rintro e w' ⟨rfl, rfl⟩))
  go_wp2_with fail
  all_goals (
  go_wp2_with fail
  go_returns
  refine ⟨?_, (by repeat (first | with_reducible exact Grew.refl _ | with_reducible refine Grew.alloc ?_ _ | with_reducible refine Grew.drewN ?_ _ | with_reducible refine Grew.drew1 ?_ | with_reducible refine Grew.setCell ?_ (by simp) _))⟩
  simp (disch := (repeat (first | omega | apply or64_lt))) only [mulc, or64, or64_lit, wrap64c]
  )
end Go.Proofs.Ytgekmhcekkmdhaa
