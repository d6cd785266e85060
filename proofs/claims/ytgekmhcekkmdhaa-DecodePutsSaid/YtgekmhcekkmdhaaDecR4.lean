import Derived.Test.YtgekmhcekkmdhaaDecR3
set_option linter.unusedVariables false
set_option linter.unusedSimpArgs false
namespace Go.Proofs.Ytgekmhcekkmdhaa
open Go.RowKit

theorem wi0 : IntKind.i64.wrap 0 = 0 := by rfl
theorem wi1 : IntKind.i64.wrap 1 = 1 := by rfl
theorem wi3 : IntKind.i64.wrap 3 = 3 := by rfl
theorem wi4 : IntKind.i64.wrap 4 = 4 := by rfl
theorem wi5 : IntKind.i64.wrap 5 = 5 := by rfl
theorem wi6 : IntKind.i64.wrap 6 = 6 := by rfl
theorem wi7 : IntKind.i64.wrap 7 = 7 := by rfl

set_option maxRecDepth 100000 in
set_option maxHeartbeats 2000000 in
theorem rd_99_0 (x : Nat) (hx : x < 4294967296) (ho : fN x 6 0 = 99) (hf : fN x 14 12 = 0) (w : World) :
    Calls Try.prog 28 #[.int .u32 (x : Nat)] w fun e w' => e = .returned (.tuple #[.agg #[.int .i64 5, .int .i64 0, .bool false, .int .i64 0, .int .i64 (fN x 19 15 : Nat), .int .i64 (fN x 24 20 : Nat), .int .u64 (sextV ((fN x 31 31 * 4096 ||| fN x 30 25 * 32 ||| fN x 11 8 * 2 ||| fN x 7 7 * 2048 : Nat) : Int) 13)], .bool true]) ∧ Grew w w' := by
  have ho' : ((fN x 6 0 : Nat) : Int) = 99 := by omega
  have HO := Lib.hid ho'
  clear ho ho'
  have hf' : ((fN x 14 12 : Nat) : Int) = 0 := by omega
  have HF := Lib.hid hf'
  clear hf hf'
  have b11_7 := fN_lt x 11 7 32 (by decide)
  have b19_15 := fN_lt x 19 15 32 (by decide)
  have b24_20 := fN_lt x 24 20 32 (by decide)
  have b14_12 := fN_lt x 14 12 8 (by decide)
  have b31_20 := fN_lt x 31 20 4096 (by decide)
  have b31_25 := fN_lt x 31 25 128 (by decide)
  have b31_31 := fN_lt x 31 31 2 (by decide)
  have b30_21 := fN_lt x 30 21 1024 (by decide)
  have b20_20 := fN_lt x 20 20 2 (by decide)
  have b19_12 := fN_lt x 19 12 256 (by decide)
  have b30_25 := fN_lt x 30 25 64 (by decide)
  have b11_8 := fN_lt x 11 8 16 (by decide)
  have b7_7 := fN_lt x 7 7 2 (by decide)
  have b31_12 := fN_lt x 31 12 1048576 (by decide)
  have b31_27 := fN_lt x 31 27 32 (by decide)
  have b31_26 := fN_lt x 31 26 64 (by decide)
  go_enter Try.func28, Try.ntmps28
  go_wp2_with fail
  refine (r3f x hx 11 7 (by decide) (by decide) (by decide) _).mono ?_
  rintro e w1 ⟨rfl, h1⟩
  obtain rfl := h1.symm
  go_wp2_with fail
  refine (r3f x hx 19 15 (by decide) (by decide) (by decide) _).mono ?_
  rintro e w1 ⟨rfl, h1⟩
  obtain rfl := h1.symm
  go_wp2_with fail
  refine (r3f x hx 24 20 (by decide) (by decide) (by decide) _).mono ?_
  rintro e w1 ⟨rfl, h1⟩
  obtain rfl := h1.symm
  go_wp2_with fail
  refine (r3f x hx 14 12 (by decide) (by decide) (by decide) _).mono ?_
  rintro e w1 ⟨rfl, h1⟩
  obtain rfl := h1.symm
  rw [HF.out]
  go_wp2_with fail
  refine (r3f x hx 6 0 (by decide) (by decide) (by decide) _).mono ?_
  rintro e w1 ⟨rfl, h1⟩
  obtain rfl := h1.symm
  rw [HO.out]
  go_wp2_with fail
  refine (r3f x hx 31 31 (by decide) (by decide) (by decide) _).mono ?_
  rintro e w1 ⟨rfl, h1⟩
  obtain rfl := h1.symm
  go_wp2_with fail
  refine (r3f x hx 30 25 (by decide) (by decide) (by decide) _).mono ?_
  rintro e w1 ⟨rfl, h1⟩
  obtain rfl := h1.symm
  go_wp2_with fail
  refine (r3f x hx 11 8 (by decide) (by decide) (by decide) _).mono ?_
  rintro e w1 ⟨rfl, h1⟩
  obtain rfl := h1.symm
  go_wp2_with fail
  refine (r3f x hx 7 7 (by decide) (by decide) (by decide) _).mono ?_
  rintro e w1 ⟨rfl, h1⟩
  obtain rfl := h1.symm
  go_wp2_with fail
  -- : IntKind.i64.wrap ((fN x 14 12 : Nat) : Int) = ((fN x 14 12 : Nat) : Int) := IntWalk.i64_in _ (by omega)
  go_region_held3 (fun w' => w'.cell? ⟨w.heap.size + 1, 3, none⟩ = some (.int .i64 (fN x 11 7 : Nat)) ∧ w'.cell? ⟨w.heap.size + 1, 4, none⟩ = some (.int .i64 (fN x 19 15 : Nat)) ∧ w'.cell? ⟨w.heap.size + 1, 5, none⟩ = some (.int .i64 (fN x 24 20 : Nat))) (go_keep) (first | (go_at_call 49; refine (r3f x hx _ _ (by decide) (by decide) (by decide) _).mono ?_; rintro e w' ⟨rfl, rfl⟩) | (go_at_call 50; refine (r3z _ (bitsIn _ _).1 (bitsIn _ _).2 _ _).mono ?_; rintro e w' ⟨rfl, rfl⟩))
  go_wp2_with fail
  all_goals (
  go_wp2_with fail
  go_returns
  refine ⟨?_, (by repeat (first | with_reducible exact Grew.refl _ | with_reducible refine Grew.alloc ?_ _ | with_reducible refine Grew.drewN ?_ _ | with_reducible refine Grew.drew1 ?_ | with_reducible refine Grew.setCell ?_ (by simp) _))⟩
  simp (disch := (repeat (first | omega | apply or64_lt))) only [mulc, or64, or64_lit, wrap64c, wi0, wi1, wi3, wi4, wi5, wi6, wi7]
  )
set_option maxRecDepth 100000 in
set_option maxHeartbeats 2000000 in
theorem rd_99_1 (x : Nat) (hx : x < 4294967296) (ho : fN x 6 0 = 99) (hf : fN x 14 12 = 1) (w : World) :
    Calls Try.prog 28 #[.int .u32 (x : Nat)] w fun e w' => e = .returned (.tuple #[.agg #[.int .i64 5, .int .i64 1, .bool false, .int .i64 0, .int .i64 (fN x 19 15 : Nat), .int .i64 (fN x 24 20 : Nat), .int .u64 (sextV ((fN x 31 31 * 4096 ||| fN x 30 25 * 32 ||| fN x 11 8 * 2 ||| fN x 7 7 * 2048 : Nat) : Int) 13)], .bool true]) ∧ Grew w w' := by
  have ho' : ((fN x 6 0 : Nat) : Int) = 99 := by omega
  have HO := Lib.hid ho'
  clear ho ho'
  have hf' : ((fN x 14 12 : Nat) : Int) = 1 := by omega
  have HF := Lib.hid hf'
  clear hf hf'
  have b11_7 := fN_lt x 11 7 32 (by decide)
  have b19_15 := fN_lt x 19 15 32 (by decide)
  have b24_20 := fN_lt x 24 20 32 (by decide)
  have b14_12 := fN_lt x 14 12 8 (by decide)
  have b31_20 := fN_lt x 31 20 4096 (by decide)
  have b31_25 := fN_lt x 31 25 128 (by decide)
  have b31_31 := fN_lt x 31 31 2 (by decide)
  have b30_21 := fN_lt x 30 21 1024 (by decide)
  have b20_20 := fN_lt x 20 20 2 (by decide)
  have b19_12 := fN_lt x 19 12 256 (by decide)
  have b30_25 := fN_lt x 30 25 64 (by decide)
  have b11_8 := fN_lt x 11 8 16 (by decide)
  have b7_7 := fN_lt x 7 7 2 (by decide)
  have b31_12 := fN_lt x 31 12 1048576 (by decide)
  have b31_27 := fN_lt x 31 27 32 (by decide)
  have b31_26 := fN_lt x 31 26 64 (by decide)
  go_enter Try.func28, Try.ntmps28
  go_wp2_with fail
  refine (r3f x hx 11 7 (by decide) (by decide) (by decide) _).mono ?_
  rintro e w1 ⟨rfl, h1⟩
  obtain rfl := h1.symm
  go_wp2_with fail
  refine (r3f x hx 19 15 (by decide) (by decide) (by decide) _).mono ?_
  rintro e w1 ⟨rfl, h1⟩
  obtain rfl := h1.symm
  go_wp2_with fail
  refine (r3f x hx 24 20 (by decide) (by decide) (by decide) _).mono ?_
  rintro e w1 ⟨rfl, h1⟩
  obtain rfl := h1.symm
  go_wp2_with fail
  refine (r3f x hx 14 12 (by decide) (by decide) (by decide) _).mono ?_
  rintro e w1 ⟨rfl, h1⟩
  obtain rfl := h1.symm
  rw [HF.out]
  go_wp2_with fail
  refine (r3f x hx 6 0 (by decide) (by decide) (by decide) _).mono ?_
  rintro e w1 ⟨rfl, h1⟩
  obtain rfl := h1.symm
  rw [HO.out]
  go_wp2_with fail
  refine (r3f x hx 31 31 (by decide) (by decide) (by decide) _).mono ?_
  rintro e w1 ⟨rfl, h1⟩
  obtain rfl := h1.symm
  go_wp2_with fail
  refine (r3f x hx 30 25 (by decide) (by decide) (by decide) _).mono ?_
  rintro e w1 ⟨rfl, h1⟩
  obtain rfl := h1.symm
  go_wp2_with fail
  refine (r3f x hx 11 8 (by decide) (by decide) (by decide) _).mono ?_
  rintro e w1 ⟨rfl, h1⟩
  obtain rfl := h1.symm
  go_wp2_with fail
  refine (r3f x hx 7 7 (by decide) (by decide) (by decide) _).mono ?_
  rintro e w1 ⟨rfl, h1⟩
  obtain rfl := h1.symm
  go_wp2_with fail
  -- : IntKind.i64.wrap ((fN x 14 12 : Nat) : Int) = ((fN x 14 12 : Nat) : Int) := IntWalk.i64_in _ (by omega)
  go_region_held3 (fun w' => w'.cell? ⟨w.heap.size + 1, 3, none⟩ = some (.int .i64 (fN x 11 7 : Nat)) ∧ w'.cell? ⟨w.heap.size + 1, 4, none⟩ = some (.int .i64 (fN x 19 15 : Nat)) ∧ w'.cell? ⟨w.heap.size + 1, 5, none⟩ = some (.int .i64 (fN x 24 20 : Nat))) (go_keep) (first | (go_at_call 49; refine (r3f x hx _ _ (by decide) (by decide) (by decide) _).mono ?_; rintro e w' ⟨rfl, rfl⟩) | (go_at_call 50; refine (r3z _ (bitsIn _ _).1 (bitsIn _ _).2 _ _).mono ?_; rintro e w' ⟨rfl, rfl⟩))
  go_wp2_with fail
  all_goals (
  go_wp2_with fail
  go_returns
  refine ⟨?_, (by repeat (first | with_reducible exact Grew.refl _ | with_reducible refine Grew.alloc ?_ _ | with_reducible refine Grew.drewN ?_ _ | with_reducible refine Grew.drew1 ?_ | with_reducible refine Grew.setCell ?_ (by simp) _))⟩
  simp (disch := (repeat (first | omega | apply or64_lt))) only [mulc, or64, or64_lit, wrap64c, wi0, wi1, wi3, wi4, wi5, wi6, wi7]
  )
set_option maxRecDepth 100000 in
set_option maxHeartbeats 2000000 in
theorem rd_99_3 (x : Nat) (hx : x < 4294967296) (ho : fN x 6 0 = 99) (hf : fN x 14 12 = 3) (w : World) :
    Calls Try.prog 28 #[.int .u32 (x : Nat)] w fun e w' => e = .returned (.tuple #[.agg #[.int .i64 5, .int .i64 3, .bool false, .int .i64 0, .int .i64 (fN x 19 15 : Nat), .int .i64 (fN x 24 20 : Nat), .int .u64 (sextV ((fN x 31 31 * 4096 ||| fN x 30 25 * 32 ||| fN x 11 8 * 2 ||| fN x 7 7 * 2048 : Nat) : Int) 13)], .bool false]) ∧ Grew w w' := by
  have ho' : ((fN x 6 0 : Nat) : Int) = 99 := by omega
  have HO := Lib.hid ho'
  clear ho ho'
  have hf' : ((fN x 14 12 : Nat) : Int) = 3 := by omega
  have HF := Lib.hid hf'
  clear hf hf'
  have b11_7 := fN_lt x 11 7 32 (by decide)
  have b19_15 := fN_lt x 19 15 32 (by decide)
  have b24_20 := fN_lt x 24 20 32 (by decide)
  have b14_12 := fN_lt x 14 12 8 (by decide)
  have b31_20 := fN_lt x 31 20 4096 (by decide)
  have b31_25 := fN_lt x 31 25 128 (by decide)
  have b31_31 := fN_lt x 31 31 2 (by decide)
  have b30_21 := fN_lt x 30 21 1024 (by decide)
  have b20_20 := fN_lt x 20 20 2 (by decide)
  have b19_12 := fN_lt x 19 12 256 (by decide)
  have b30_25 := fN_lt x 30 25 64 (by decide)
  have b11_8 := fN_lt x 11 8 16 (by decide)
  have b7_7 := fN_lt x 7 7 2 (by decide)
  have b31_12 := fN_lt x 31 12 1048576 (by decide)
  have b31_27 := fN_lt x 31 27 32 (by decide)
  have b31_26 := fN_lt x 31 26 64 (by decide)
  go_enter Try.func28, Try.ntmps28
  go_wp2_with fail
  refine (r3f x hx 11 7 (by decide) (by decide) (by decide) _).mono ?_
  rintro e w1 ⟨rfl, h1⟩
  obtain rfl := h1.symm
  go_wp2_with fail
  refine (r3f x hx 19 15 (by decide) (by decide) (by decide) _).mono ?_
  rintro e w1 ⟨rfl, h1⟩
  obtain rfl := h1.symm
  go_wp2_with fail
  refine (r3f x hx 24 20 (by decide) (by decide) (by decide) _).mono ?_
  rintro e w1 ⟨rfl, h1⟩
  obtain rfl := h1.symm
  go_wp2_with fail
  refine (r3f x hx 14 12 (by decide) (by decide) (by decide) _).mono ?_
  rintro e w1 ⟨rfl, h1⟩
  obtain rfl := h1.symm
  rw [HF.out]
  go_wp2_with fail
  refine (r3f x hx 6 0 (by decide) (by decide) (by decide) _).mono ?_
  rintro e w1 ⟨rfl, h1⟩
  obtain rfl := h1.symm
  rw [HO.out]
  go_wp2_with fail
  refine (r3f x hx 31 31 (by decide) (by decide) (by decide) _).mono ?_
  rintro e w1 ⟨rfl, h1⟩
  obtain rfl := h1.symm
  go_wp2_with fail
  refine (r3f x hx 30 25 (by decide) (by decide) (by decide) _).mono ?_
  rintro e w1 ⟨rfl, h1⟩
  obtain rfl := h1.symm
  go_wp2_with fail
  refine (r3f x hx 11 8 (by decide) (by decide) (by decide) _).mono ?_
  rintro e w1 ⟨rfl, h1⟩
  obtain rfl := h1.symm
  go_wp2_with fail
  refine (r3f x hx 7 7 (by decide) (by decide) (by decide) _).mono ?_
  rintro e w1 ⟨rfl, h1⟩
  obtain rfl := h1.symm
  go_wp2_with fail
  -- : IntKind.i64.wrap ((fN x 14 12 : Nat) : Int) = ((fN x 14 12 : Nat) : Int) := IntWalk.i64_in _ (by omega)
  go_region_held3 (fun w' => w'.cell? ⟨w.heap.size + 1, 3, none⟩ = some (.int .i64 (fN x 11 7 : Nat)) ∧ w'.cell? ⟨w.heap.size + 1, 4, none⟩ = some (.int .i64 (fN x 19 15 : Nat)) ∧ w'.cell? ⟨w.heap.size + 1, 5, none⟩ = some (.int .i64 (fN x 24 20 : Nat))) (go_keep) (first | (go_at_call 49; refine (r3f x hx _ _ (by decide) (by decide) (by decide) _).mono ?_; rintro e w' ⟨rfl, rfl⟩) | (go_at_call 50; refine (r3z _ (bitsIn _ _).1 (bitsIn _ _).2 _ _).mono ?_; rintro e w' ⟨rfl, rfl⟩))
  go_wp2_with fail
  all_goals (
  go_wp2_with fail
  go_returns
  refine ⟨?_, (by repeat (first | with_reducible exact Grew.refl _ | with_reducible refine Grew.alloc ?_ _ | with_reducible refine Grew.drewN ?_ _ | with_reducible refine Grew.drew1 ?_ | with_reducible refine Grew.setCell ?_ (by simp) _))⟩
  simp (disch := (repeat (first | omega | apply or64_lt))) only [mulc, or64, or64_lit, wrap64c, wi0, wi1, wi3, wi4, wi5, wi6, wi7]
  )
set_option maxRecDepth 100000 in
set_option maxHeartbeats 2000000 in
theorem rd_99_4 (x : Nat) (hx : x < 4294967296) (ho : fN x 6 0 = 99) (hf : fN x 14 12 = 4) (w : World) :
    Calls Try.prog 28 #[.int .u32 (x : Nat)] w fun e w' => e = .returned (.tuple #[.agg #[.int .i64 5, .int .i64 4, .bool false, .int .i64 0, .int .i64 (fN x 19 15 : Nat), .int .i64 (fN x 24 20 : Nat), .int .u64 (sextV ((fN x 31 31 * 4096 ||| fN x 30 25 * 32 ||| fN x 11 8 * 2 ||| fN x 7 7 * 2048 : Nat) : Int) 13)], .bool true]) ∧ Grew w w' := by
  have ho' : ((fN x 6 0 : Nat) : Int) = 99 := by omega
  have HO := Lib.hid ho'
  clear ho ho'
  have hf' : ((fN x 14 12 : Nat) : Int) = 4 := by omega
  have HF := Lib.hid hf'
  clear hf hf'
  have b11_7 := fN_lt x 11 7 32 (by decide)
  have b19_15 := fN_lt x 19 15 32 (by decide)
  have b24_20 := fN_lt x 24 20 32 (by decide)
  have b14_12 := fN_lt x 14 12 8 (by decide)
  have b31_20 := fN_lt x 31 20 4096 (by decide)
  have b31_25 := fN_lt x 31 25 128 (by decide)
  have b31_31 := fN_lt x 31 31 2 (by decide)
  have b30_21 := fN_lt x 30 21 1024 (by decide)
  have b20_20 := fN_lt x 20 20 2 (by decide)
  have b19_12 := fN_lt x 19 12 256 (by decide)
  have b30_25 := fN_lt x 30 25 64 (by decide)
  have b11_8 := fN_lt x 11 8 16 (by decide)
  have b7_7 := fN_lt x 7 7 2 (by decide)
  have b31_12 := fN_lt x 31 12 1048576 (by decide)
  have b31_27 := fN_lt x 31 27 32 (by decide)
  have b31_26 := fN_lt x 31 26 64 (by decide)
  go_enter Try.func28, Try.ntmps28
  go_wp2_with fail
  refine (r3f x hx 11 7 (by decide) (by decide) (by decide) _).mono ?_
  rintro e w1 ⟨rfl, h1⟩
  obtain rfl := h1.symm
  go_wp2_with fail
  refine (r3f x hx 19 15 (by decide) (by decide) (by decide) _).mono ?_
  rintro e w1 ⟨rfl, h1⟩
  obtain rfl := h1.symm
  go_wp2_with fail
  refine (r3f x hx 24 20 (by decide) (by decide) (by decide) _).mono ?_
  rintro e w1 ⟨rfl, h1⟩
  obtain rfl := h1.symm
  go_wp2_with fail
  refine (r3f x hx 14 12 (by decide) (by decide) (by decide) _).mono ?_
  rintro e w1 ⟨rfl, h1⟩
  obtain rfl := h1.symm
  rw [HF.out]
  go_wp2_with fail
  refine (r3f x hx 6 0 (by decide) (by decide) (by decide) _).mono ?_
  rintro e w1 ⟨rfl, h1⟩
  obtain rfl := h1.symm
  rw [HO.out]
  go_wp2_with fail
  refine (r3f x hx 31 31 (by decide) (by decide) (by decide) _).mono ?_
  rintro e w1 ⟨rfl, h1⟩
  obtain rfl := h1.symm
  go_wp2_with fail
  refine (r3f x hx 30 25 (by decide) (by decide) (by decide) _).mono ?_
  rintro e w1 ⟨rfl, h1⟩
  obtain rfl := h1.symm
  go_wp2_with fail
  refine (r3f x hx 11 8 (by decide) (by decide) (by decide) _).mono ?_
  rintro e w1 ⟨rfl, h1⟩
  obtain rfl := h1.symm
  go_wp2_with fail
  refine (r3f x hx 7 7 (by decide) (by decide) (by decide) _).mono ?_
  rintro e w1 ⟨rfl, h1⟩
  obtain rfl := h1.symm
  go_wp2_with fail
  -- : IntKind.i64.wrap ((fN x 14 12 : Nat) : Int) = ((fN x 14 12 : Nat) : Int) := IntWalk.i64_in _ (by omega)
  go_region_held3 (fun w' => w'.cell? ⟨w.heap.size + 1, 3, none⟩ = some (.int .i64 (fN x 11 7 : Nat)) ∧ w'.cell? ⟨w.heap.size + 1, 4, none⟩ = some (.int .i64 (fN x 19 15 : Nat)) ∧ w'.cell? ⟨w.heap.size + 1, 5, none⟩ = some (.int .i64 (fN x 24 20 : Nat))) (go_keep) (first | (go_at_call 49; refine (r3f x hx _ _ (by decide) (by decide) (by decide) _).mono ?_; rintro e w' ⟨rfl, rfl⟩) | (go_at_call 50; refine (r3z _ (bitsIn _ _).1 (bitsIn _ _).2 _ _).mono ?_; rintro e w' ⟨rfl, rfl⟩))
  go_wp2_with fail
  all_goals (
  go_wp2_with fail
  go_returns
  refine ⟨?_, (by repeat (first | with_reducible exact Grew.refl _ | with_reducible refine Grew.alloc ?_ _ | with_reducible refine Grew.drewN ?_ _ | with_reducible refine Grew.drew1 ?_ | with_reducible refine Grew.setCell ?_ (by simp) _))⟩
  simp (disch := (repeat (first | omega | apply or64_lt))) only [mulc, or64, or64_lit, wrap64c, wi0, wi1, wi3, wi4, wi5, wi6, wi7]
  )
set_option maxRecDepth 100000 in
set_option maxHeartbeats 2000000 in
theorem rd_99_5 (x : Nat) (hx : x < 4294967296) (ho : fN x 6 0 = 99) (hf : fN x 14 12 = 5) (w : World) :
    Calls Try.prog 28 #[.int .u32 (x : Nat)] w fun e w' => e = .returned (.tuple #[.agg #[.int .i64 5, .int .i64 5, .bool false, .int .i64 0, .int .i64 (fN x 19 15 : Nat), .int .i64 (fN x 24 20 : Nat), .int .u64 (sextV ((fN x 31 31 * 4096 ||| fN x 30 25 * 32 ||| fN x 11 8 * 2 ||| fN x 7 7 * 2048 : Nat) : Int) 13)], .bool true]) ∧ Grew w w' := by
  have ho' : ((fN x 6 0 : Nat) : Int) = 99 := by omega
  have HO := Lib.hid ho'
  clear ho ho'
  have hf' : ((fN x 14 12 : Nat) : Int) = 5 := by omega
  have HF := Lib.hid hf'
  clear hf hf'
  have b11_7 := fN_lt x 11 7 32 (by decide)
  have b19_15 := fN_lt x 19 15 32 (by decide)
  have b24_20 := fN_lt x 24 20 32 (by decide)
  have b14_12 := fN_lt x 14 12 8 (by decide)
  have b31_20 := fN_lt x 31 20 4096 (by decide)
  have b31_25 := fN_lt x 31 25 128 (by decide)
  have b31_31 := fN_lt x 31 31 2 (by decide)
  have b30_21 := fN_lt x 30 21 1024 (by decide)
  have b20_20 := fN_lt x 20 20 2 (by decide)
  have b19_12 := fN_lt x 19 12 256 (by decide)
  have b30_25 := fN_lt x 30 25 64 (by decide)
  have b11_8 := fN_lt x 11 8 16 (by decide)
  have b7_7 := fN_lt x 7 7 2 (by decide)
  have b31_12 := fN_lt x 31 12 1048576 (by decide)
  have b31_27 := fN_lt x 31 27 32 (by decide)
  have b31_26 := fN_lt x 31 26 64 (by decide)
  go_enter Try.func28, Try.ntmps28
  go_wp2_with fail
  refine (r3f x hx 11 7 (by decide) (by decide) (by decide) _).mono ?_
  rintro e w1 ⟨rfl, h1⟩
  obtain rfl := h1.symm
  go_wp2_with fail
  refine (r3f x hx 19 15 (by decide) (by decide) (by decide) _).mono ?_
  rintro e w1 ⟨rfl, h1⟩
  obtain rfl := h1.symm
  go_wp2_with fail
  refine (r3f x hx 24 20 (by decide) (by decide) (by decide) _).mono ?_
  rintro e w1 ⟨rfl, h1⟩
  obtain rfl := h1.symm
  go_wp2_with fail
  refine (r3f x hx 14 12 (by decide) (by decide) (by decide) _).mono ?_
  rintro e w1 ⟨rfl, h1⟩
  obtain rfl := h1.symm
  rw [HF.out]
  go_wp2_with fail
  refine (r3f x hx 6 0 (by decide) (by decide) (by decide) _).mono ?_
  rintro e w1 ⟨rfl, h1⟩
  obtain rfl := h1.symm
  rw [HO.out]
  go_wp2_with fail
  refine (r3f x hx 31 31 (by decide) (by decide) (by decide) _).mono ?_
  rintro e w1 ⟨rfl, h1⟩
  obtain rfl := h1.symm
  go_wp2_with fail
  refine (r3f x hx 30 25 (by decide) (by decide) (by decide) _).mono ?_
  rintro e w1 ⟨rfl, h1⟩
  obtain rfl := h1.symm
  go_wp2_with fail
  refine (r3f x hx 11 8 (by decide) (by decide) (by decide) _).mono ?_
  rintro e w1 ⟨rfl, h1⟩
  obtain rfl := h1.symm
  go_wp2_with fail
  refine (r3f x hx 7 7 (by decide) (by decide) (by decide) _).mono ?_
  rintro e w1 ⟨rfl, h1⟩
  obtain rfl := h1.symm
  go_wp2_with fail
  -- : IntKind.i64.wrap ((fN x 14 12 : Nat) : Int) = ((fN x 14 12 : Nat) : Int) := IntWalk.i64_in _ (by omega)
  go_region_held3 (fun w' => w'.cell? ⟨w.heap.size + 1, 3, none⟩ = some (.int .i64 (fN x 11 7 : Nat)) ∧ w'.cell? ⟨w.heap.size + 1, 4, none⟩ = some (.int .i64 (fN x 19 15 : Nat)) ∧ w'.cell? ⟨w.heap.size + 1, 5, none⟩ = some (.int .i64 (fN x 24 20 : Nat))) (go_keep) (first | (go_at_call 49; refine (r3f x hx _ _ (by decide) (by decide) (by decide) _).mono ?_; rintro e w' ⟨rfl, rfl⟩) | (go_at_call 50; refine (r3z _ (bitsIn _ _).1 (bitsIn _ _).2 _ _).mono ?_; rintro e w' ⟨rfl, rfl⟩))
  go_wp2_with fail
  all_goals (
  go_wp2_with fail
  go_returns
  refine ⟨?_, (by repeat (first | with_reducible exact Grew.refl _ | with_reducible refine Grew.alloc ?_ _ | with_reducible refine Grew.drewN ?_ _ | with_reducible refine Grew.drew1 ?_ | with_reducible refine Grew.setCell ?_ (by simp) _))⟩
  simp (disch := (repeat (first | omega | apply or64_lt))) only [mulc, or64, or64_lit, wrap64c, wi0, wi1, wi3, wi4, wi5, wi6, wi7]
  )
set_option maxRecDepth 100000 in
set_option maxHeartbeats 2000000 in
theorem rd_99_6 (x : Nat) (hx : x < 4294967296) (ho : fN x 6 0 = 99) (hf : fN x 14 12 = 6) (w : World) :
    Calls Try.prog 28 #[.int .u32 (x : Nat)] w fun e w' => e = .returned (.tuple #[.agg #[.int .i64 5, .int .i64 6, .bool false, .int .i64 0, .int .i64 (fN x 19 15 : Nat), .int .i64 (fN x 24 20 : Nat), .int .u64 (sextV ((fN x 31 31 * 4096 ||| fN x 30 25 * 32 ||| fN x 11 8 * 2 ||| fN x 7 7 * 2048 : Nat) : Int) 13)], .bool true]) ∧ Grew w w' := by
  have ho' : ((fN x 6 0 : Nat) : Int) = 99 := by omega
  have HO := Lib.hid ho'
  clear ho ho'
  have hf' : ((fN x 14 12 : Nat) : Int) = 6 := by omega
  have HF := Lib.hid hf'
  clear hf hf'
  have b11_7 := fN_lt x 11 7 32 (by decide)
  have b19_15 := fN_lt x 19 15 32 (by decide)
  have b24_20 := fN_lt x 24 20 32 (by decide)
  have b14_12 := fN_lt x 14 12 8 (by decide)
  have b31_20 := fN_lt x 31 20 4096 (by decide)
  have b31_25 := fN_lt x 31 25 128 (by decide)
  have b31_31 := fN_lt x 31 31 2 (by decide)
  have b30_21 := fN_lt x 30 21 1024 (by decide)
  have b20_20 := fN_lt x 20 20 2 (by decide)
  have b19_12 := fN_lt x 19 12 256 (by decide)
  have b30_25 := fN_lt x 30 25 64 (by decide)
  have b11_8 := fN_lt x 11 8 16 (by decide)
  have b7_7 := fN_lt x 7 7 2 (by decide)
  have b31_12 := fN_lt x 31 12 1048576 (by decide)
  have b31_27 := fN_lt x 31 27 32 (by decide)
  have b31_26 := fN_lt x 31 26 64 (by decide)
  go_enter Try.func28, Try.ntmps28
  go_wp2_with fail
  refine (r3f x hx 11 7 (by decide) (by decide) (by decide) _).mono ?_
  rintro e w1 ⟨rfl, h1⟩
  obtain rfl := h1.symm
  go_wp2_with fail
  refine (r3f x hx 19 15 (by decide) (by decide) (by decide) _).mono ?_
  rintro e w1 ⟨rfl, h1⟩
  obtain rfl := h1.symm
  go_wp2_with fail
  refine (r3f x hx 24 20 (by decide) (by decide) (by decide) _).mono ?_
  rintro e w1 ⟨rfl, h1⟩
  obtain rfl := h1.symm
  go_wp2_with fail
  refine (r3f x hx 14 12 (by decide) (by decide) (by decide) _).mono ?_
  rintro e w1 ⟨rfl, h1⟩
  obtain rfl := h1.symm
  rw [HF.out]
  go_wp2_with fail
  refine (r3f x hx 6 0 (by decide) (by decide) (by decide) _).mono ?_
  rintro e w1 ⟨rfl, h1⟩
  obtain rfl := h1.symm
  rw [HO.out]
  go_wp2_with fail
  refine (r3f x hx 31 31 (by decide) (by decide) (by decide) _).mono ?_
  rintro e w1 ⟨rfl, h1⟩
  obtain rfl := h1.symm
  go_wp2_with fail
  refine (r3f x hx 30 25 (by decide) (by decide) (by decide) _).mono ?_
  rintro e w1 ⟨rfl, h1⟩
  obtain rfl := h1.symm
  go_wp2_with fail
  refine (r3f x hx 11 8 (by decide) (by decide) (by decide) _).mono ?_
  rintro e w1 ⟨rfl, h1⟩
  obtain rfl := h1.symm
  go_wp2_with fail
  refine (r3f x hx 7 7 (by decide) (by decide) (by decide) _).mono ?_
  rintro e w1 ⟨rfl, h1⟩
  obtain rfl := h1.symm
  go_wp2_with fail
  -- : IntKind.i64.wrap ((fN x 14 12 : Nat) : Int) = ((fN x 14 12 : Nat) : Int) := IntWalk.i64_in _ (by omega)
  go_region_held3 (fun w' => w'.cell? ⟨w.heap.size + 1, 3, none⟩ = some (.int .i64 (fN x 11 7 : Nat)) ∧ w'.cell? ⟨w.heap.size + 1, 4, none⟩ = some (.int .i64 (fN x 19 15 : Nat)) ∧ w'.cell? ⟨w.heap.size + 1, 5, none⟩ = some (.int .i64 (fN x 24 20 : Nat))) (go_keep) (first | (go_at_call 49; refine (r3f x hx _ _ (by decide) (by decide) (by decide) _).mono ?_; rintro e w' ⟨rfl, rfl⟩) | (go_at_call 50; refine (r3z _ (bitsIn _ _).1 (bitsIn _ _).2 _ _).mono ?_; rintro e w' ⟨rfl, rfl⟩))
  go_wp2_with fail
  all_goals (
  go_wp2_with fail
  go_returns
  refine ⟨?_, (by repeat (first | with_reducible exact Grew.refl _ | with_reducible refine Grew.alloc ?_ _ | with_reducible refine Grew.drewN ?_ _ | with_reducible refine Grew.drew1 ?_ | with_reducible refine Grew.setCell ?_ (by simp) _))⟩
  simp (disch := (repeat (first | omega | apply or64_lt))) only [mulc, or64, or64_lit, wrap64c, wi0, wi1, wi3, wi4, wi5, wi6, wi7]
  )
set_option maxRecDepth 100000 in
set_option maxHeartbeats 2000000 in
theorem rd_99_7 (x : Nat) (hx : x < 4294967296) (ho : fN x 6 0 = 99) (hf : fN x 14 12 = 7) (w : World) :
    Calls Try.prog 28 #[.int .u32 (x : Nat)] w fun e w' => e = .returned (.tuple #[.agg #[.int .i64 5, .int .i64 7, .bool false, .int .i64 0, .int .i64 (fN x 19 15 : Nat), .int .i64 (fN x 24 20 : Nat), .int .u64 (sextV ((fN x 31 31 * 4096 ||| fN x 30 25 * 32 ||| fN x 11 8 * 2 ||| fN x 7 7 * 2048 : Nat) : Int) 13)], .bool true]) ∧ Grew w w' := by
  have ho' : ((fN x 6 0 : Nat) : Int) = 99 := by omega
  have HO := Lib.hid ho'
  clear ho ho'
  have hf' : ((fN x 14 12 : Nat) : Int) = 7 := by omega
  have HF := Lib.hid hf'
  clear hf hf'
  have b11_7 := fN_lt x 11 7 32 (by decide)
  have b19_15 := fN_lt x 19 15 32 (by decide)
  have b24_20 := fN_lt x 24 20 32 (by decide)
  have b14_12 := fN_lt x 14 12 8 (by decide)
  have b31_20 := fN_lt x 31 20 4096 (by decide)
  have b31_25 := fN_lt x 31 25 128 (by decide)
  have b31_31 := fN_lt x 31 31 2 (by decide)
  have b30_21 := fN_lt x 30 21 1024 (by decide)
  have b20_20 := fN_lt x 20 20 2 (by decide)
  have b19_12 := fN_lt x 19 12 256 (by decide)
  have b30_25 := fN_lt x 30 25 64 (by decide)
  have b11_8 := fN_lt x 11 8 16 (by decide)
  have b7_7 := fN_lt x 7 7 2 (by decide)
  have b31_12 := fN_lt x 31 12 1048576 (by decide)
  have b31_27 := fN_lt x 31 27 32 (by decide)
  have b31_26 := fN_lt x 31 26 64 (by decide)
  go_enter Try.func28, Try.ntmps28
  go_wp2_with fail
  refine (r3f x hx 11 7 (by decide) (by decide) (by decide) _).mono ?_
  rintro e w1 ⟨rfl, h1⟩
  obtain rfl := h1.symm
  go_wp2_with fail
  refine (r3f x hx 19 15 (by decide) (by decide) (by decide) _).mono ?_
  rintro e w1 ⟨rfl, h1⟩
  obtain rfl := h1.symm
  go_wp2_with fail
  refine (r3f x hx 24 20 (by decide) (by decide) (by decide) _).mono ?_
  rintro e w1 ⟨rfl, h1⟩
  obtain rfl := h1.symm
  go_wp2_with fail
  refine (r3f x hx 14 12 (by decide) (by decide) (by decide) _).mono ?_
  rintro e w1 ⟨rfl, h1⟩
  obtain rfl := h1.symm
  rw [HF.out]
  go_wp2_with fail
  refine (r3f x hx 6 0 (by decide) (by decide) (by decide) _).mono ?_
  rintro e w1 ⟨rfl, h1⟩
  obtain rfl := h1.symm
  rw [HO.out]
  go_wp2_with fail
  refine (r3f x hx 31 31 (by decide) (by decide) (by decide) _).mono ?_
  rintro e w1 ⟨rfl, h1⟩
  obtain rfl := h1.symm
  go_wp2_with fail
  refine (r3f x hx 30 25 (by decide) (by decide) (by decide) _).mono ?_
  rintro e w1 ⟨rfl, h1⟩
  obtain rfl := h1.symm
  go_wp2_with fail
  refine (r3f x hx 11 8 (by decide) (by decide) (by decide) _).mono ?_
  rintro e w1 ⟨rfl, h1⟩
  obtain rfl := h1.symm
  go_wp2_with fail
  refine (r3f x hx 7 7 (by decide) (by decide) (by decide) _).mono ?_
  rintro e w1 ⟨rfl, h1⟩
  obtain rfl := h1.symm
  go_wp2_with fail
  -- : IntKind.i64.wrap ((fN x 14 12 : Nat) : Int) = ((fN x 14 12 : Nat) : Int) := IntWalk.i64_in _ (by omega)
  go_region_held3 (fun w' => w'.cell? ⟨w.heap.size + 1, 3, none⟩ = some (.int .i64 (fN x 11 7 : Nat)) ∧ w'.cell? ⟨w.heap.size + 1, 4, none⟩ = some (.int .i64 (fN x 19 15 : Nat)) ∧ w'.cell? ⟨w.heap.size + 1, 5, none⟩ = some (.int .i64 (fN x 24 20 : Nat))) (go_keep) (first | (go_at_call 49; refine (r3f x hx _ _ (by decide) (by decide) (by decide) _).mono ?_; rintro e w' ⟨rfl, rfl⟩) | (go_at_call 50; refine (r3z _ (bitsIn _ _).1 (bitsIn _ _).2 _ _).mono ?_; rintro e w' ⟨rfl, rfl⟩))
  go_wp2_with fail
  all_goals (
  go_wp2_with fail
  go_returns
  refine ⟨?_, (by repeat (first | with_reducible exact Grew.refl _ | with_reducible refine Grew.alloc ?_ _ | with_reducible refine Grew.drewN ?_ _ | with_reducible refine Grew.drew1 ?_ | with_reducible refine Grew.setCell ?_ (by simp) _))⟩
  simp (disch := (repeat (first | omega | apply or64_lt))) only [mulc, or64, or64_lit, wrap64c, wi0, wi1, wi3, wi4, wi5, wi6, wi7]
  )
end Go.Proofs.Ytgekmhcekkmdhaa
