/-
  Contracts of the document's own text about instructions: the rows of system, and no row.
-/
import Derived.Test.YtgekmhcekkmdhaaDecV2
import Derived.Deep.DeepCutAuto
set_option linter.unusedVariables false
set_option linter.unusedSimpArgs false
namespace Go.Proofs.Ytgekmhcekkmdhaa
open Go Go.RowKit

set_option maxRecDepth 100000 in
set_option maxHeartbeats 4000000 in
theorem rd_115_h (x : Nat) (hx : x < 4294967296) (ho : fN x 6 0 = 115) (q : Nat) (hq : q < 5) (he : sysW.getD q 0 = x) (hlt : ∀ k, k < q → ¬ sysW.getD k 0 = x) (w : World) :
    Calls Try.prog 28 #[.int .u32 (x : Nat)] w fun e w' => e = .returned (.tuple #[.agg #[.int .i64 11, .int .i64 (q : Nat), .bool false, .int .i64 0, .int .i64 0, .int .i64 0, .int .u64 0], .bool true]) ∧ Grew w w' := by
  have b11_7 := fN_lt x 11 7 32 (by decide)
  have b19_15 := fN_lt x 19 15 32 (by decide)
  have b24_20 := fN_lt x 24 20 32 (by decide)
  have b14_12 := fN_lt x 14 12 8 (by decide)
  have b31_20 := fN_lt x 31 20 4096 (by decide)
  have b31_25 := fN_lt x 31 25 128 (by decide)
  have b31_27 := fN_lt x 31 27 32 (by decide)
  have b31_26 := fN_lt x 31 26 64 (by decide)
  have b25_20 := fN_lt x 25 20 64 (by decide)
  have h_o : ((fN x 6 0 : Nat) : Int) = 115 := by omega
  have H_o := Lib.hid h_o
  clear h_o
  go_enter Try.func28, Try.ntmps28
  go_wp2_with fail
  refine (r3f x hx 11 7 (by decide) (by decide) (by decide) _).mono ?_
  rintro e w1 ⟨rfl, h1⟩
  obtain rfl := h1.symm
  go_wp2_with fail
  refine (r3f x hx 19 15 (by decide) (by decide) (by decide) _).mono ?_
  rintro e w1 ⟨rfl, h1⟩
  obtain rfl := h1.symm
  go_wp2_with fail
  refine (r3f x hx 24 20 (by decide) (by decide) (by decide) _).mono ?_
  rintro e w1 ⟨rfl, h1⟩
  obtain rfl := h1.symm
  go_wp2_with fail
  refine (r3f x hx 14 12 (by decide) (by decide) (by decide) _).mono ?_
  rintro e w1 ⟨rfl, h1⟩
  obtain rfl := h1.symm
  go_wp2_with fail
  refine (r3f x hx 6 0 (by decide) (by decide) (by decide) _).mono ?_
  rintro e w1 ⟨rfl, h1⟩
  obtain rfl := h1.symm
  rw [H_o.out]
  go_upto_region 31 with fail
  have kR := (Blk.new w #[.int .i64 0, .int .i64 0, .bool false, .int .i64 0, .int .i64 0, .int .i64 0, .int .u64 0] 26 w.heap.size rfl).alloc (.cells #[.int .i64 0, .int .i64 0, .bool false, .int .i64 (fN x 11 7 : Nat), .int .i64 (fN x 19 15 : Nat), .int .i64 (fN x 24 20 : Nat), .int .u64 0] 26)
  have kI := Blk.new (w.alloc (.cells #[.int .i64 0, .int .i64 0, .bool false, .int .i64 0, .int .i64 0, .int .i64 0, .int .u64 0] 26)) #[.int .i64 0, .int .i64 0, .bool false, .int .i64 (fN x 11 7 : Nat), .int .i64 (fN x 19 15 : Nat), .int .i64 (fN x 24 20 : Nat), .int .u64 0] 26 (w.heap.size + 1) (by simp)
  have G0 := ((Grew.refl w).alloc (.cells #[.int .i64 0, .int .i64 0, .bool false, .int .i64 0, .int .i64 0, .int .i64 0, .int .u64 0] 26)).alloc (.cells #[.int .i64 0, .int .i64 0, .bool false, .int .i64 (fN x 11 7 : Nat), .int .i64 (fN x 19 15 : Nat), .int .i64 (fN x 24 20 : Nat), .int .u64 0] 26)
  generalize (w.alloc (.cells #[.int .i64 0, .int .i64 0, .bool false, .int .i64 0, .int .i64 0, .int .i64 0, .int .u64 0] 26)).alloc (.cells #[.int .i64 0, .int .i64 0, .bool false, .int .i64 (fN x 11 7 : Nat), .int .i64 (fN x 19 15 : Nat), .int .i64 (fN x 24 20 : Nat), .int .u64 0] 26) = wa at *
  have i0 : wa.cell? ⟨w.heap.size + 1, 0, none⟩ = some (.int .i64 0) := kI.cell 0
  have i1 : wa.cell? ⟨w.heap.size + 1, 1, none⟩ = some (.int .i64 0) := kI.cell 1
  have i2 : wa.cell? ⟨w.heap.size + 1, 2, none⟩ = some (.bool false) := kI.cell 2
  have i3 : wa.cell? ⟨w.heap.size + 1, 3, none⟩ = some (.int .i64 (fN x 11 7 : Nat)) := kI.cell 3
  have i4 : wa.cell? ⟨w.heap.size + 1, 4, none⟩ = some (.int .i64 (fN x 19 15 : Nat)) := kI.cell 4
  have i5 : wa.cell? ⟨w.heap.size + 1, 5, none⟩ = some (.int .i64 (fN x 24 20 : Nat)) := kI.cell 5
  have i6 : wa.cell? ⟨w.heap.size + 1, 6, none⟩ = some (.int .u64 0) := kI.cell 6
  have hI := kI.lt
  have KR := Lib.hid kR
  clear kR kI
  go_wp2_with fail
  refine (sy_hit x q hq he hlt _ _ _ (Grew.refl _)).mono ?_
  rintro e w5 ⟨rfl, g5⟩
  have kR5 := KR.out.grew g5
  have r0 : w5.cell? ⟨w.heap.size, 0, none⟩ = some (.int .i64 0) := kR5.cell 0
  have r1 : w5.cell? ⟨w.heap.size, 1, none⟩ = some (.int .i64 0) := kR5.cell 1
  have r2 : w5.cell? ⟨w.heap.size, 2, none⟩ = some (.bool false) := kR5.cell 2
  have r3 : w5.cell? ⟨w.heap.size, 3, none⟩ = some (.int .i64 0) := kR5.cell 3
  have r4 : w5.cell? ⟨w.heap.size, 4, none⟩ = some (.int .i64 0) := kR5.cell 4
  have r5 : w5.cell? ⟨w.heap.size, 5, none⟩ = some (.int .i64 0) := kR5.cell 5
  have r6 : w5.cell? ⟨w.heap.size, 6, none⟩ = some (.int .u64 0) := kR5.cell 6
  have fr : ∀ o, w5.frozen? ⟨w.heap.size, o, none⟩ = false := kR5.free
  have hR := kR5.lt
  clear kR5
  go_wp2_with fail
  refine bodyPost_ret (v := .tuple #[.agg #[.int .i64 11, .int .i64 (q : Nat), .bool false, .int .i64 0, .int .i64 0, .int .i64 0, .int .u64 0], .bool true]) (by simp [results, Try.results28, go_sem, r0, r1, r2, r3, r4, r5, r6]) rfl ⟨rfl, (by repeat (first | with_reducible exact G0.trans g5 | with_reducible refine Grew.setCell ?_ (Nat.le_refl _) _))⟩
set_option maxRecDepth 100000 in
set_option maxHeartbeats 4000000 in
theorem rd_115_sy (x : Nat) (hx : x < 4294967296) (ho : fN x 6 0 = 115) (hm : ∀ k, k < 5 → ¬ sysW.getD k 0 = x) (hf : fN x 14 12 = 0) (h9 : fN x 31 25 = 9) (w : World) :
    Calls Try.prog 28 #[.int .u32 (x : Nat)] w fun e w' => e = .returned (.tuple #[.agg #[.int .i64 11, .int .i64 5, .bool false, .int .i64 0, .int .i64 (fN x 19 15 : Nat), .int .i64 (fN x 24 20 : Nat), .int .u64 0], .bool (((fN x 11 7 : Nat) : Int) == 0)]) ∧ Grew w w' := by
  have b11_7 := fN_lt x 11 7 32 (by decide)
  have b19_15 := fN_lt x 19 15 32 (by decide)
  have b24_20 := fN_lt x 24 20 32 (by decide)
  have b14_12 := fN_lt x 14 12 8 (by decide)
  have b31_20 := fN_lt x 31 20 4096 (by decide)
  have b31_25 := fN_lt x 31 25 128 (by decide)
  have b31_27 := fN_lt x 31 27 32 (by decide)
  have b31_26 := fN_lt x 31 26 64 (by decide)
  have b25_20 := fN_lt x 25 20 64 (by decide)
  have h_o : ((fN x 6 0 : Nat) : Int) = 115 := by omega
  have H_o := Lib.hid h_o
  clear h_o
  go_enter Try.func28, Try.ntmps28
  go_wp2_with fail
  refine (r3f x hx 11 7 (by decide) (by decide) (by decide) _).mono ?_
  rintro e w1 ⟨rfl, h1⟩
  obtain rfl := h1.symm
  go_wp2_with fail
  refine (r3f x hx 19 15 (by decide) (by decide) (by decide) _).mono ?_
  rintro e w1 ⟨rfl, h1⟩
  obtain rfl := h1.symm
  go_wp2_with fail
  refine (r3f x hx 24 20 (by decide) (by decide) (by decide) _).mono ?_
  rintro e w1 ⟨rfl, h1⟩
  obtain rfl := h1.symm
  go_wp2_with fail
  refine (r3f x hx 14 12 (by decide) (by decide) (by decide) _).mono ?_
  rintro e w1 ⟨rfl, h1⟩
  obtain rfl := h1.symm
  go_wp2_with fail
  refine (r3f x hx 6 0 (by decide) (by decide) (by decide) _).mono ?_
  rintro e w1 ⟨rfl, h1⟩
  obtain rfl := h1.symm
  rw [H_o.out]
  go_upto_region 31 with fail
  have kR := (Blk.new w #[.int .i64 0, .int .i64 0, .bool false, .int .i64 0, .int .i64 0, .int .i64 0, .int .u64 0] 26 w.heap.size rfl).alloc (.cells #[.int .i64 0, .int .i64 0, .bool false, .int .i64 (fN x 11 7 : Nat), .int .i64 (fN x 19 15 : Nat), .int .i64 (fN x 24 20 : Nat), .int .u64 0] 26)
  have kI := Blk.new (w.alloc (.cells #[.int .i64 0, .int .i64 0, .bool false, .int .i64 0, .int .i64 0, .int .i64 0, .int .u64 0] 26)) #[.int .i64 0, .int .i64 0, .bool false, .int .i64 (fN x 11 7 : Nat), .int .i64 (fN x 19 15 : Nat), .int .i64 (fN x 24 20 : Nat), .int .u64 0] 26 (w.heap.size + 1) (by simp)
  have G0 := ((Grew.refl w).alloc (.cells #[.int .i64 0, .int .i64 0, .bool false, .int .i64 0, .int .i64 0, .int .i64 0, .int .u64 0] 26)).alloc (.cells #[.int .i64 0, .int .i64 0, .bool false, .int .i64 (fN x 11 7 : Nat), .int .i64 (fN x 19 15 : Nat), .int .i64 (fN x 24 20 : Nat), .int .u64 0] 26)
  generalize (w.alloc (.cells #[.int .i64 0, .int .i64 0, .bool false, .int .i64 0, .int .i64 0, .int .i64 0, .int .u64 0] 26)).alloc (.cells #[.int .i64 0, .int .i64 0, .bool false, .int .i64 (fN x 11 7 : Nat), .int .i64 (fN x 19 15 : Nat), .int .i64 (fN x 24 20 : Nat), .int .u64 0] 26) = wa at *
  have i0 : wa.cell? ⟨w.heap.size + 1, 0, none⟩ = some (.int .i64 0) := kI.cell 0
  have i1 : wa.cell? ⟨w.heap.size + 1, 1, none⟩ = some (.int .i64 0) := kI.cell 1
  have i2 : wa.cell? ⟨w.heap.size + 1, 2, none⟩ = some (.bool false) := kI.cell 2
  have i3 : wa.cell? ⟨w.heap.size + 1, 3, none⟩ = some (.int .i64 (fN x 11 7 : Nat)) := kI.cell 3
  have i4 : wa.cell? ⟨w.heap.size + 1, 4, none⟩ = some (.int .i64 (fN x 19 15 : Nat)) := kI.cell 4
  have i5 : wa.cell? ⟨w.heap.size + 1, 5, none⟩ = some (.int .i64 (fN x 24 20 : Nat)) := kI.cell 5
  have i6 : wa.cell? ⟨w.heap.size + 1, 6, none⟩ = some (.int .u64 0) := kI.cell 6
  have hI := kI.lt
  have KR := Lib.hid kR
  clear kR kI
  go_wp2_with fail
  refine (sy_s_y x hx hm hf h9 _ _ _ (Grew.refl _)).mono ?_
  rintro e w5 ⟨rfl, g5⟩
  have kR5 := KR.out.grew g5
  have r0 : w5.cell? ⟨w.heap.size, 0, none⟩ = some (.int .i64 0) := kR5.cell 0
  have r1 : w5.cell? ⟨w.heap.size, 1, none⟩ = some (.int .i64 0) := kR5.cell 1
  have r2 : w5.cell? ⟨w.heap.size, 2, none⟩ = some (.bool false) := kR5.cell 2
  have r3 : w5.cell? ⟨w.heap.size, 3, none⟩ = some (.int .i64 0) := kR5.cell 3
  have r4 : w5.cell? ⟨w.heap.size, 4, none⟩ = some (.int .i64 0) := kR5.cell 4
  have r5 : w5.cell? ⟨w.heap.size, 5, none⟩ = some (.int .i64 0) := kR5.cell 5
  have r6 : w5.cell? ⟨w.heap.size, 6, none⟩ = some (.int .u64 0) := kR5.cell 6
  have fr : ∀ o, w5.frozen? ⟨w.heap.size, o, none⟩ = false := kR5.free
  have hR := kR5.lt
  clear kR5
  go_wp2_with fail
  refine bodyPost_ret (v := .tuple #[.agg #[.int .i64 11, .int .i64 5, .bool false, .int .i64 0, .int .i64 (fN x 19 15 : Nat), .int .i64 (fN x 24 20 : Nat), .int .u64 0], .bool (((fN x 11 7 : Nat) : Int) == 0)]) (by simp [results, Try.results28, go_sem, r0, r1, r2, r3, r4, r5, r6]) rfl ⟨rfl, (by repeat (first | with_reducible exact G0.trans g5 | with_reducible refine Grew.setCell ?_ (Nat.le_refl _) _))⟩
set_option maxRecDepth 100000 in
set_option maxHeartbeats 4000000 in
theorem rd_115_sn (x : Nat) (hx : x < 4294967296) (ho : fN x 6 0 = 115) (hm : ∀ k, k < 5 → ¬ sysW.getD k 0 = x) (hf : fN x 14 12 = 0) (h9 : ¬ fN x 31 25 = 9) (w : World) :
    Calls Try.prog 28 #[.int .u32 (x : Nat)] w fun e w' => e = .returned (.tuple #[.agg #[.int .i64 11, .int .i64 5, .bool false, .int .i64 0, .int .i64 (fN x 19 15 : Nat), .int .i64 (fN x 24 20 : Nat), .int .u64 0], .bool false]) ∧ Grew w w' := by
  have b11_7 := fN_lt x 11 7 32 (by decide)
  have b19_15 := fN_lt x 19 15 32 (by decide)
  have b24_20 := fN_lt x 24 20 32 (by decide)
  have b14_12 := fN_lt x 14 12 8 (by decide)
  have b31_20 := fN_lt x 31 20 4096 (by decide)
  have b31_25 := fN_lt x 31 25 128 (by decide)
  have b31_27 := fN_lt x 31 27 32 (by decide)
  have b31_26 := fN_lt x 31 26 64 (by decide)
  have b25_20 := fN_lt x 25 20 64 (by decide)
  have h_o : ((fN x 6 0 : Nat) : Int) = 115 := by omega
  have H_o := Lib.hid h_o
  clear h_o
  go_enter Try.func28, Try.ntmps28
  go_wp2_with fail
  refine (r3f x hx 11 7 (by decide) (by decide) (by decide) _).mono ?_
  rintro e w1 ⟨rfl, h1⟩
  obtain rfl := h1.symm
  go_wp2_with fail
  refine (r3f x hx 19 15 (by decide) (by decide) (by decide) _).mono ?_
  rintro e w1 ⟨rfl, h1⟩
  obtain rfl := h1.symm
  go_wp2_with fail
  refine (r3f x hx 24 20 (by decide) (by decide) (by decide) _).mono ?_
  rintro e w1 ⟨rfl, h1⟩
  obtain rfl := h1.symm
  go_wp2_with fail
  refine (r3f x hx 14 12 (by decide) (by decide) (by decide) _).mono ?_
  rintro e w1 ⟨rfl, h1⟩
  obtain rfl := h1.symm
  go_wp2_with fail
  refine (r3f x hx 6 0 (by decide) (by decide) (by decide) _).mono ?_
  rintro e w1 ⟨rfl, h1⟩
  obtain rfl := h1.symm
  rw [H_o.out]
  go_upto_region 31 with fail
  have kR := (Blk.new w #[.int .i64 0, .int .i64 0, .bool false, .int .i64 0, .int .i64 0, .int .i64 0, .int .u64 0] 26 w.heap.size rfl).alloc (.cells #[.int .i64 0, .int .i64 0, .bool false, .int .i64 (fN x 11 7 : Nat), .int .i64 (fN x 19 15 : Nat), .int .i64 (fN x 24 20 : Nat), .int .u64 0] 26)
  have kI := Blk.new (w.alloc (.cells #[.int .i64 0, .int .i64 0, .bool false, .int .i64 0, .int .i64 0, .int .i64 0, .int .u64 0] 26)) #[.int .i64 0, .int .i64 0, .bool false, .int .i64 (fN x 11 7 : Nat), .int .i64 (fN x 19 15 : Nat), .int .i64 (fN x 24 20 : Nat), .int .u64 0] 26 (w.heap.size + 1) (by simp)
  have G0 := ((Grew.refl w).alloc (.cells #[.int .i64 0, .int .i64 0, .bool false, .int .i64 0, .int .i64 0, .int .i64 0, .int .u64 0] 26)).alloc (.cells #[.int .i64 0, .int .i64 0, .bool false, .int .i64 (fN x 11 7 : Nat), .int .i64 (fN x 19 15 : Nat), .int .i64 (fN x 24 20 : Nat), .int .u64 0] 26)
  generalize (w.alloc (.cells #[.int .i64 0, .int .i64 0, .bool false, .int .i64 0, .int .i64 0, .int .i64 0, .int .u64 0] 26)).alloc (.cells #[.int .i64 0, .int .i64 0, .bool false, .int .i64 (fN x 11 7 : Nat), .int .i64 (fN x 19 15 : Nat), .int .i64 (fN x 24 20 : Nat), .int .u64 0] 26) = wa at *
  have i0 : wa.cell? ⟨w.heap.size + 1, 0, none⟩ = some (.int .i64 0) := kI.cell 0
  have i1 : wa.cell? ⟨w.heap.size + 1, 1, none⟩ = some (.int .i64 0) := kI.cell 1
  have i2 : wa.cell? ⟨w.heap.size + 1, 2, none⟩ = some (.bool false) := kI.cell 2
  have i3 : wa.cell? ⟨w.heap.size + 1, 3, none⟩ = some (.int .i64 (fN x 11 7 : Nat)) := kI.cell 3
  have i4 : wa.cell? ⟨w.heap.size + 1, 4, none⟩ = some (.int .i64 (fN x 19 15 : Nat)) := kI.cell 4
  have i5 : wa.cell? ⟨w.heap.size + 1, 5, none⟩ = some (.int .i64 (fN x 24 20 : Nat)) := kI.cell 5
  have i6 : wa.cell? ⟨w.heap.size + 1, 6, none⟩ = some (.int .u64 0) := kI.cell 6
  have hI := kI.lt
  have KR := Lib.hid kR
  clear kR kI
  go_wp2_with fail
  refine (sy_s_n x hx hm hf h9 _ _ _ (Grew.refl _)).mono ?_
  rintro e w5 ⟨rfl, g5⟩
  have kR5 := KR.out.grew g5
  have r0 : w5.cell? ⟨w.heap.size, 0, none⟩ = some (.int .i64 0) := kR5.cell 0
  have r1 : w5.cell? ⟨w.heap.size, 1, none⟩ = some (.int .i64 0) := kR5.cell 1
  have r2 : w5.cell? ⟨w.heap.size, 2, none⟩ = some (.bool false) := kR5.cell 2
  have r3 : w5.cell? ⟨w.heap.size, 3, none⟩ = some (.int .i64 0) := kR5.cell 3
  have r4 : w5.cell? ⟨w.heap.size, 4, none⟩ = some (.int .i64 0) := kR5.cell 4
  have r5 : w5.cell? ⟨w.heap.size, 5, none⟩ = some (.int .i64 0) := kR5.cell 5
  have r6 : w5.cell? ⟨w.heap.size, 6, none⟩ = some (.int .u64 0) := kR5.cell 6
  have fr : ∀ o, w5.frozen? ⟨w.heap.size, o, none⟩ = false := kR5.free
  have hR := kR5.lt
  clear kR5
  go_wp2_with fail
  refine bodyPost_ret (v := .tuple #[.agg #[.int .i64 11, .int .i64 5, .bool false, .int .i64 0, .int .i64 (fN x 19 15 : Nat), .int .i64 (fN x 24 20 : Nat), .int .u64 0], .bool false]) (by simp [results, Try.results28, go_sem, r0, r1, r2, r3, r4, r5, r6]) rfl ⟨rfl, (by repeat (first | with_reducible exact G0.trans g5 | with_reducible refine Grew.setCell ?_ (Nat.le_refl _) _))⟩
set_option maxRecDepth 100000 in
set_option maxHeartbeats 4000000 in
theorem rd_115_c (x : Nat) (hx : x < 4294967296) (ho : fN x 6 0 = 115) (hm : ∀ k, k < 5 → ¬ sysW.getD k 0 = x) (hf : ¬ fN x 14 12 = 0) (w : World) :
    Calls Try.prog 28 #[.int .u32 (x : Nat)] w fun e w' => e = .returned (.tuple #[.agg #[.int .i64 12, .int .i64 (fN x 14 12 : Nat), .bool false, .int .i64 (fN x 11 7 : Nat), .int .i64 (fN x 19 15 : Nat), .int .i64 0, .int .u64 (fN x 31 20 : Nat)], .bool (((fN x 14 12 : Nat) : Int) != 4)]) ∧ Grew w w' := by
  have b11_7 := fN_lt x 11 7 32 (by decide)
  have b19_15 := fN_lt x 19 15 32 (by decide)
  have b24_20 := fN_lt x 24 20 32 (by decide)
  have b14_12 := fN_lt x 14 12 8 (by decide)
  have b31_20 := fN_lt x 31 20 4096 (by decide)
  have b31_25 := fN_lt x 31 25 128 (by decide)
  have b31_27 := fN_lt x 31 27 32 (by decide)
  have b31_26 := fN_lt x 31 26 64 (by decide)
  have b25_20 := fN_lt x 25 20 64 (by decide)
  have h_o : ((fN x 6 0 : Nat) : Int) = 115 := by omega
  have H_o := Lib.hid h_o
  clear h_o
  go_enter Try.func28, Try.ntmps28
  go_wp2_with fail
  refine (r3f x hx 11 7 (by decide) (by decide) (by decide) _).mono ?_
  rintro e w1 ⟨rfl, h1⟩
  obtain rfl := h1.symm
  go_wp2_with fail
  refine (r3f x hx 19 15 (by decide) (by decide) (by decide) _).mono ?_
  rintro e w1 ⟨rfl, h1⟩
  obtain rfl := h1.symm
  go_wp2_with fail
  refine (r3f x hx 24 20 (by decide) (by decide) (by decide) _).mono ?_
  rintro e w1 ⟨rfl, h1⟩
  obtain rfl := h1.symm
  go_wp2_with fail
  refine (r3f x hx 14 12 (by decide) (by decide) (by decide) _).mono ?_
  rintro e w1 ⟨rfl, h1⟩
  obtain rfl := h1.symm
  go_wp2_with fail
  refine (r3f x hx 6 0 (by decide) (by decide) (by decide) _).mono ?_
  rintro e w1 ⟨rfl, h1⟩
  obtain rfl := h1.symm
  rw [H_o.out]
  go_upto_region 31 with fail
  have kR := (Blk.new w #[.int .i64 0, .int .i64 0, .bool false, .int .i64 0, .int .i64 0, .int .i64 0, .int .u64 0] 26 w.heap.size rfl).alloc (.cells #[.int .i64 0, .int .i64 0, .bool false, .int .i64 (fN x 11 7 : Nat), .int .i64 (fN x 19 15 : Nat), .int .i64 (fN x 24 20 : Nat), .int .u64 0] 26)
  have kI := Blk.new (w.alloc (.cells #[.int .i64 0, .int .i64 0, .bool false, .int .i64 0, .int .i64 0, .int .i64 0, .int .u64 0] 26)) #[.int .i64 0, .int .i64 0, .bool false, .int .i64 (fN x 11 7 : Nat), .int .i64 (fN x 19 15 : Nat), .int .i64 (fN x 24 20 : Nat), .int .u64 0] 26 (w.heap.size + 1) (by simp)
  have G0 := ((Grew.refl w).alloc (.cells #[.int .i64 0, .int .i64 0, .bool false, .int .i64 0, .int .i64 0, .int .i64 0, .int .u64 0] 26)).alloc (.cells #[.int .i64 0, .int .i64 0, .bool false, .int .i64 (fN x 11 7 : Nat), .int .i64 (fN x 19 15 : Nat), .int .i64 (fN x 24 20 : Nat), .int .u64 0] 26)
  generalize (w.alloc (.cells #[.int .i64 0, .int .i64 0, .bool false, .int .i64 0, .int .i64 0, .int .i64 0, .int .u64 0] 26)).alloc (.cells #[.int .i64 0, .int .i64 0, .bool false, .int .i64 (fN x 11 7 : Nat), .int .i64 (fN x 19 15 : Nat), .int .i64 (fN x 24 20 : Nat), .int .u64 0] 26) = wa at *
  have i0 : wa.cell? ⟨w.heap.size + 1, 0, none⟩ = some (.int .i64 0) := kI.cell 0
  have i1 : wa.cell? ⟨w.heap.size + 1, 1, none⟩ = some (.int .i64 0) := kI.cell 1
  have i2 : wa.cell? ⟨w.heap.size + 1, 2, none⟩ = some (.bool false) := kI.cell 2
  have i3 : wa.cell? ⟨w.heap.size + 1, 3, none⟩ = some (.int .i64 (fN x 11 7 : Nat)) := kI.cell 3
  have i4 : wa.cell? ⟨w.heap.size + 1, 4, none⟩ = some (.int .i64 (fN x 19 15 : Nat)) := kI.cell 4
  have i5 : wa.cell? ⟨w.heap.size + 1, 5, none⟩ = some (.int .i64 (fN x 24 20 : Nat)) := kI.cell 5
  have i6 : wa.cell? ⟨w.heap.size + 1, 6, none⟩ = some (.int .u64 0) := kI.cell 6
  have hI := kI.lt
  have KR := Lib.hid kR
  clear kR kI
  go_wp2_with fail
  refine (sy_c x hx hm hf _ _ _ (Grew.refl _)).mono ?_
  rintro e w5 ⟨rfl, g5⟩
  have kR5 := KR.out.grew g5
  have r0 : w5.cell? ⟨w.heap.size, 0, none⟩ = some (.int .i64 0) := kR5.cell 0
  have r1 : w5.cell? ⟨w.heap.size, 1, none⟩ = some (.int .i64 0) := kR5.cell 1
  have r2 : w5.cell? ⟨w.heap.size, 2, none⟩ = some (.bool false) := kR5.cell 2
  have r3 : w5.cell? ⟨w.heap.size, 3, none⟩ = some (.int .i64 0) := kR5.cell 3
  have r4 : w5.cell? ⟨w.heap.size, 4, none⟩ = some (.int .i64 0) := kR5.cell 4
  have r5 : w5.cell? ⟨w.heap.size, 5, none⟩ = some (.int .i64 0) := kR5.cell 5
  have r6 : w5.cell? ⟨w.heap.size, 6, none⟩ = some (.int .u64 0) := kR5.cell 6
  have fr : ∀ o, w5.frozen? ⟨w.heap.size, o, none⟩ = false := kR5.free
  have hR := kR5.lt
  clear kR5
  go_wp2_with fail
  refine bodyPost_ret (v := .tuple #[.agg #[.int .i64 12, .int .i64 (fN x 14 12 : Nat), .bool false, .int .i64 (fN x 11 7 : Nat), .int .i64 (fN x 19 15 : Nat), .int .i64 0, .int .u64 (fN x 31 20 : Nat)], .bool (((fN x 14 12 : Nat) : Int) != 4)]) (by simp [results, Try.results28, go_sem, r0, r1, r2, r3, r4, r5, r6]) rfl ⟨rfl, (by repeat (first | with_reducible exact G0.trans g5 | with_reducible refine Grew.setCell ?_ (Nat.le_refl _) _))⟩
set_option maxRecDepth 100000 in
set_option maxHeartbeats 4000000 in
theorem rd_none (x : Nat) (hx : x < 4294967296) (h55 : ¬ fN x 6 0 = 55) (h23 : ¬ fN x 6 0 = 23) (h111 : ¬ fN x 6 0 = 111) (h103 : ¬ fN x 6 0 = 103) (h99 : ¬ fN x 6 0 = 99) (h3 : ¬ fN x 6 0 = 3) (h35 : ¬ fN x 6 0 = 35) (h19 : ¬ fN x 6 0 = 19) (h27 : ¬ fN x 6 0 = 27) (h51 : ¬ fN x 6 0 = 51) (h59 : ¬ fN x 6 0 = 59) (h15 : ¬ fN x 6 0 = 15) (h115 : ¬ fN x 6 0 = 115) (h47 : ¬ fN x 6 0 = 47) (w : World) :
    Calls Try.prog 28 #[.int .u32 (x : Nat)] w fun e w' => e = .returned (.tuple #[.agg #[.int .i64 0, .int .i64 0, .bool false, .int .i64 (fN x 11 7 : Nat), .int .i64 (fN x 19 15 : Nat), .int .i64 (fN x 24 20 : Nat), .int .u64 0], .bool false]) ∧ Grew w w' := by
  have n_o55 : (((fN x 6 0 : Nat) : Int) == 55) = false := by rw [beq_eq_false_iff_ne]; omega
  have n_o23 : (((fN x 6 0 : Nat) : Int) == 23) = false := by rw [beq_eq_false_iff_ne]; omega
  have n_o111 : (((fN x 6 0 : Nat) : Int) == 111) = false := by rw [beq_eq_false_iff_ne]; omega
  have n_o103 : (((fN x 6 0 : Nat) : Int) == 103) = false := by rw [beq_eq_false_iff_ne]; omega
  have n_o99 : (((fN x 6 0 : Nat) : Int) == 99) = false := by rw [beq_eq_false_iff_ne]; omega
  have n_o3 : (((fN x 6 0 : Nat) : Int) == 3) = false := by rw [beq_eq_false_iff_ne]; omega
  have n_o35 : (((fN x 6 0 : Nat) : Int) == 35) = false := by rw [beq_eq_false_iff_ne]; omega
  have n_o19 : (((fN x 6 0 : Nat) : Int) == 19) = false := by rw [beq_eq_false_iff_ne]; omega
  have n_o27 : (((fN x 6 0 : Nat) : Int) == 27) = false := by rw [beq_eq_false_iff_ne]; omega
  have n_o51 : (((fN x 6 0 : Nat) : Int) == 51) = false := by rw [beq_eq_false_iff_ne]; omega
  have n_o59 : (((fN x 6 0 : Nat) : Int) == 59) = false := by rw [beq_eq_false_iff_ne]; omega
  have n_o15 : (((fN x 6 0 : Nat) : Int) == 15) = false := by rw [beq_eq_false_iff_ne]; omega
  have n_o115 : (((fN x 6 0 : Nat) : Int) == 115) = false := by rw [beq_eq_false_iff_ne]; omega
  have n_o47 : (((fN x 6 0 : Nat) : Int) == 47) = false := by rw [beq_eq_false_iff_ne]; omega
  clear h55 h23 h111 h103 h99 h3 h35 h19 h27 h51 h59 h15 h115 h47
  have b11_7 := fN_lt x 11 7 32 (by decide)
  have b19_15 := fN_lt x 19 15 32 (by decide)
  have b24_20 := fN_lt x 24 20 32 (by decide)
  have b14_12 := fN_lt x 14 12 8 (by decide)
  have b31_20 := fN_lt x 31 20 4096 (by decide)
  have b31_25 := fN_lt x 31 25 128 (by decide)
  have b31_27 := fN_lt x 31 27 32 (by decide)
  have b31_26 := fN_lt x 31 26 64 (by decide)
  have b25_20 := fN_lt x 25 20 64 (by decide)
  go_enter Try.func28, Try.ntmps28
  go_wp2_with fail
  refine (r3f x hx 11 7 (by decide) (by decide) (by decide) _).mono ?_
  rintro e w1 ⟨rfl, h1⟩
  obtain rfl := h1.symm
  go_wp2_with fail
  refine (r3f x hx 19 15 (by decide) (by decide) (by decide) _).mono ?_
  rintro e w1 ⟨rfl, h1⟩
  obtain rfl := h1.symm
  go_wp2_with fail
  refine (r3f x hx 24 20 (by decide) (by decide) (by decide) _).mono ?_
  rintro e w1 ⟨rfl, h1⟩
  obtain rfl := h1.symm
  go_wp2_with fail
  refine (r3f x hx 14 12 (by decide) (by decide) (by decide) _).mono ?_
  rintro e w1 ⟨rfl, h1⟩
  obtain rfl := h1.symm
  go_wp2_with fail
  refine (r3f x hx 6 0 (by decide) (by decide) (by decide) _).mono ?_
  rintro e w1 ⟨rfl, h1⟩
  obtain rfl := h1.symm
  go_wp2_with fail
  go_returns
  exact ⟨rfl, (by repeat (first | with_reducible exact Grew.refl _ | with_reducible refine Grew.alloc ?_ _ | with_reducible refine Grew.drewN ?_ _ | with_reducible refine Grew.drew1 ?_ | with_reducible refine Grew.setCell ?_ (by simp) _))⟩
end Go.Proofs.Ytgekmhcekkmdhaa
