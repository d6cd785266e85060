/-
  Contracts of the document's own text about instructions: the rows of sums.
-/
import Derived.Test.YtgekmhcekkmdhaaDecU
import Derived.Deep.DeepCutAuto
set_option linter.unusedVariables false
set_option linter.unusedSimpArgs false
namespace Go.Proofs.Ytgekmhcekkmdhaa
open Go Go.RowKit

set_option maxRecDepth 100000 in
set_option maxHeartbeats 4000000 in
theorem rd_19_o (x : Nat) (hx : x < 4294967296) (ho : fN x 6 0 = 19) (q1 : ¬ fN x 14 12 = 1) (q5 : ¬ fN x 14 12 = 5) (w : World) :
    Calls Try.prog 28 #[.int .u32 (x : Nat)] w fun e w' => e = .returned (.tuple #[.agg #[.int .i64 8, .int .i64 (fN x 14 12 : Nat), .bool false, .int .i64 (fN x 11 7 : Nat), .int .i64 (fN x 19 15 : Nat), .int .i64 0, .int .u64 (sextV (fN x 31 20 : Nat) 12)], .bool true]) ∧ Grew w w' := by
  have h_3 : ((fN x 3 3 : Nat) : Int) = 0 := by
    have e1 : fN x 3 3 = x / 8 % 2 := by simp [fN]
    have e2 : fN x 6 0 = x % 128 := by simp [fN]
    omega
  have H_3 := Lib.hid h_3
  clear h_3
  have b11_7 := fN_lt x 11 7 32 (by decide)
  have b19_15 := fN_lt x 19 15 32 (by decide)
  have b24_20 := fN_lt x 24 20 32 (by decide)
  have b14_12 := fN_lt x 14 12 8 (by decide)
  have b31_20 := fN_lt x 31 20 4096 (by decide)
  have b31_25 := fN_lt x 31 25 128 (by decide)
  have b31_27 := fN_lt x 31 27 32 (by decide)
  have b31_26 := fN_lt x 31 26 64 (by decide)
  have b25_20 := fN_lt x 25 20 64 (by decide)
  have h_o : ((fN x 6 0 : Nat) : Int) = 19 := by omega
  have H_o := Lib.hid h_o
  clear h_o
  go_enter Try.func28, Try.ntmps28
  go_wp2_with fail
  refine (r3f x hx 11 7 (by decide) (by decide) (by decide) _).mono ?_
  rintro e w1 ⟨rfl, h1⟩
  obtain rfl := h1.symm
  go_wp2_with fail
  refine (r3f x hx 19 15 (by decide) (by decide) (by decide) _).mono ?_
  rintro e w1 ⟨rfl, h1⟩
  obtain rfl := h1.symm
  go_wp2_with fail
  refine (r3f x hx 24 20 (by decide) (by decide) (by decide) _).mono ?_
  rintro e w1 ⟨rfl, h1⟩
  obtain rfl := h1.symm
  go_wp2_with fail
  refine (r3f x hx 14 12 (by decide) (by decide) (by decide) _).mono ?_
  rintro e w1 ⟨rfl, h1⟩
  obtain rfl := h1.symm
  go_wp2_with fail
  refine (r3f x hx 6 0 (by decide) (by decide) (by decide) _).mono ?_
  rintro e w1 ⟨rfl, h1⟩
  obtain rfl := h1.symm
  rw [H_o.out]
  go_wp2_with fail
  have kR := (Blk.new w #[.int .i64 0, .int .i64 0, .bool false, .int .i64 0, .int .i64 0, .int .i64 0, .int .u64 0] 26 w.heap.size rfl).alloc (.cells #[.int .i64 0, .int .i64 0, .bool false, .int .i64 (fN x 11 7 : Nat), .int .i64 (fN x 19 15 : Nat), .int .i64 (fN x 24 20 : Nat), .int .u64 0] 26)
  have kI := Blk.new (w.alloc (.cells #[.int .i64 0, .int .i64 0, .bool false, .int .i64 0, .int .i64 0, .int .i64 0, .int .u64 0] 26)) #[.int .i64 0, .int .i64 0, .bool false, .int .i64 (fN x 11 7 : Nat), .int .i64 (fN x 19 15 : Nat), .int .i64 (fN x 24 20 : Nat), .int .u64 0] 26 (w.heap.size + 1) (by simp)
  have G0 := ((Grew.refl w).alloc (.cells #[.int .i64 0, .int .i64 0, .bool false, .int .i64 0, .int .i64 0, .int .i64 0, .int .u64 0] 26)).alloc (.cells #[.int .i64 0, .int .i64 0, .bool false, .int .i64 (fN x 11 7 : Nat), .int .i64 (fN x 19 15 : Nat), .int .i64 (fN x 24 20 : Nat), .int .u64 0] 26)
  generalize (w.alloc (.cells #[.int .i64 0, .int .i64 0, .bool false, .int .i64 0, .int .i64 0, .int .i64 0, .int .u64 0] 26)).alloc (.cells #[.int .i64 0, .int .i64 0, .bool false, .int .i64 (fN x 11 7 : Nat), .int .i64 (fN x 19 15 : Nat), .int .i64 (fN x 24 20 : Nat), .int .u64 0] 26) = wa at *
  have i0 : wa.cell? ⟨w.heap.size + 1, 0, none⟩ = some (.int .i64 0) := kI.cell 0
  have i1 : wa.cell? ⟨w.heap.size + 1, 1, none⟩ = some (.int .i64 0) := kI.cell 1
  have i2 : wa.cell? ⟨w.heap.size + 1, 2, none⟩ = some (.bool false) := kI.cell 2
  have i3 : wa.cell? ⟨w.heap.size + 1, 3, none⟩ = some (.int .i64 (fN x 11 7 : Nat)) := kI.cell 3
  have i4 : wa.cell? ⟨w.heap.size + 1, 4, none⟩ = some (.int .i64 (fN x 19 15 : Nat)) := kI.cell 4
  have i5 : wa.cell? ⟨w.heap.size + 1, 5, none⟩ = some (.int .i64 (fN x 24 20 : Nat)) := kI.cell 5
  have i6 : wa.cell? ⟨w.heap.size + 1, 6, none⟩ = some (.int .u64 0) := kI.cell 6
  have hI := kI.lt
  have KR := Lib.hid kR
  clear kR kI
  (first | go_region_with (first | (go_at_call 49; refine (r3f x hx _ _ (by decide) (by decide) (by decide) _).mono ?_; rintro e w' ⟨rfl, h'⟩; obtain rfl := h'.symm; rw [H_3.out]) | (go_at_call 51; refine (im_o_false x hx _ _ _ q1 q5 (Grew.refl _)).mono ?_; rintro e w5 ⟨rfl, g5⟩; have g35 := (Grew.refl wa).drew1.trans g5; have kR5 := KR.out.grew g35; have r0 : w5.cell? ⟨w.heap.size, 0, none⟩ = some (.int .i64 0) := kR5.cell 0; have r1 : w5.cell? ⟨w.heap.size, 1, none⟩ = some (.int .i64 0) := kR5.cell 1; have r2 : w5.cell? ⟨w.heap.size, 2, none⟩ = some (.bool false) := kR5.cell 2; have r3 : w5.cell? ⟨w.heap.size, 3, none⟩ = some (.int .i64 0) := kR5.cell 3; have r4 : w5.cell? ⟨w.heap.size, 4, none⟩ = some (.int .i64 0) := kR5.cell 4; have r5 : w5.cell? ⟨w.heap.size, 5, none⟩ = some (.int .i64 0) := kR5.cell 5; have r6 : w5.cell? ⟨w.heap.size, 6, none⟩ = some (.int .u64 0) := kR5.cell 6; have fr : ∀ o, w5.frozen? ⟨w.heap.size, o, none⟩ = false := kR5.free; have hR := kR5.lt; clear kR5)) | fail)
  all_goals (
  go_wp2_with fail
  refine bodyPost_ret (v := .tuple #[.agg #[.int .i64 8, .int .i64 (fN x 14 12 : Nat), .bool false, .int .i64 (fN x 11 7 : Nat), .int .i64 (fN x 19 15 : Nat), .int .i64 0, .int .u64 (sextV (fN x 31 20 : Nat) 12)], .bool true]) (by simp [results, Try.results28, go_sem, r0, r1, r2, r3, r4, r5, r6]) rfl ⟨rfl, (by repeat (first | with_reducible exact G0.trans g35 | with_reducible refine Grew.setCell ?_ (Nat.le_refl _) _))⟩)
set_option maxRecDepth 100000 in
set_option maxHeartbeats 4000000 in
theorem rd_19_1 (x : Nat) (hx : x < 4294967296) (ho : fN x 6 0 = 19) (hk : fN x 14 12 = 1) (w : World) :
    Calls Try.prog 28 #[.int .u32 (x : Nat)] w fun e w' => e = .returned (.tuple #[.agg #[.int .i64 8, .int .i64 1, .bool false, .int .i64 (fN x 11 7 : Nat), .int .i64 (fN x 19 15 : Nat), .int .i64 0, .int .u64 (fN x 25 20 : Nat)], .bool (((fN x 31 26 : Nat) : Int) == 0)]) ∧ Grew w w' := by
  have h_3 : ((fN x 3 3 : Nat) : Int) = 0 := by
    have e1 : fN x 3 3 = x / 8 % 2 := by simp [fN]
    have e2 : fN x 6 0 = x % 128 := by simp [fN]
    omega
  have H_3 := Lib.hid h_3
  clear h_3
  have b11_7 := fN_lt x 11 7 32 (by decide)
  have b19_15 := fN_lt x 19 15 32 (by decide)
  have b24_20 := fN_lt x 24 20 32 (by decide)
  have b14_12 := fN_lt x 14 12 8 (by decide)
  have b31_20 := fN_lt x 31 20 4096 (by decide)
  have b31_25 := fN_lt x 31 25 128 (by decide)
  have b31_27 := fN_lt x 31 27 32 (by decide)
  have b31_26 := fN_lt x 31 26 64 (by decide)
  have b25_20 := fN_lt x 25 20 64 (by decide)
  have h_o : ((fN x 6 0 : Nat) : Int) = 19 := by omega
  have H_o := Lib.hid h_o
  clear h_o
  go_enter Try.func28, Try.ntmps28
  go_wp2_with fail
  refine (r3f x hx 11 7 (by decide) (by decide) (by decide) _).mono ?_
  rintro e w1 ⟨rfl, h1⟩
  obtain rfl := h1.symm
  go_wp2_with fail
  refine (r3f x hx 19 15 (by decide) (by decide) (by decide) _).mono ?_
  rintro e w1 ⟨rfl, h1⟩
  obtain rfl := h1.symm
  go_wp2_with fail
  refine (r3f x hx 24 20 (by decide) (by decide) (by decide) _).mono ?_
  rintro e w1 ⟨rfl, h1⟩
  obtain rfl := h1.symm
  go_wp2_with fail
  refine (r3f x hx 14 12 (by decide) (by decide) (by decide) _).mono ?_
  rintro e w1 ⟨rfl, h1⟩
  obtain rfl := h1.symm
  go_wp2_with fail
  refine (r3f x hx 6 0 (by decide) (by decide) (by decide) _).mono ?_
  rintro e w1 ⟨rfl, h1⟩
  obtain rfl := h1.symm
  rw [H_o.out]
  go_wp2_with fail
  have kR := (Blk.new w #[.int .i64 0, .int .i64 0, .bool false, .int .i64 0, .int .i64 0, .int .i64 0, .int .u64 0] 26 w.heap.size rfl).alloc (.cells #[.int .i64 0, .int .i64 0, .bool false, .int .i64 (fN x 11 7 : Nat), .int .i64 (fN x 19 15 : Nat), .int .i64 (fN x 24 20 : Nat), .int .u64 0] 26)
  have kI := Blk.new (w.alloc (.cells #[.int .i64 0, .int .i64 0, .bool false, .int .i64 0, .int .i64 0, .int .i64 0, .int .u64 0] 26)) #[.int .i64 0, .int .i64 0, .bool false, .int .i64 (fN x 11 7 : Nat), .int .i64 (fN x 19 15 : Nat), .int .i64 (fN x 24 20 : Nat), .int .u64 0] 26 (w.heap.size + 1) (by simp)
  have G0 := ((Grew.refl w).alloc (.cells #[.int .i64 0, .int .i64 0, .bool false, .int .i64 0, .int .i64 0, .int .i64 0, .int .u64 0] 26)).alloc (.cells #[.int .i64 0, .int .i64 0, .bool false, .int .i64 (fN x 11 7 : Nat), .int .i64 (fN x 19 15 : Nat), .int .i64 (fN x 24 20 : Nat), .int .u64 0] 26)
  generalize (w.alloc (.cells #[.int .i64 0, .int .i64 0, .bool false, .int .i64 0, .int .i64 0, .int .i64 0, .int .u64 0] 26)).alloc (.cells #[.int .i64 0, .int .i64 0, .bool false, .int .i64 (fN x 11 7 : Nat), .int .i64 (fN x 19 15 : Nat), .int .i64 (fN x 24 20 : Nat), .int .u64 0] 26) = wa at *
  have i0 : wa.cell? ⟨w.heap.size + 1, 0, none⟩ = some (.int .i64 0) := kI.cell 0
  have i1 : wa.cell? ⟨w.heap.size + 1, 1, none⟩ = some (.int .i64 0) := kI.cell 1
  have i2 : wa.cell? ⟨w.heap.size + 1, 2, none⟩ = some (.bool false) := kI.cell 2
  have i3 : wa.cell? ⟨w.heap.size + 1, 3, none⟩ = some (.int .i64 (fN x 11 7 : Nat)) := kI.cell 3
  have i4 : wa.cell? ⟨w.heap.size + 1, 4, none⟩ = some (.int .i64 (fN x 19 15 : Nat)) := kI.cell 4
  have i5 : wa.cell? ⟨w.heap.size + 1, 5, none⟩ = some (.int .i64 (fN x 24 20 : Nat)) := kI.cell 5
  have i6 : wa.cell? ⟨w.heap.size + 1, 6, none⟩ = some (.int .u64 0) := kI.cell 6
  have hI := kI.lt
  have KR := Lib.hid kR
  clear kR kI
  (first | go_region_with (first | (go_at_call 49; refine (r3f x hx _ _ (by decide) (by decide) (by decide) _).mono ?_; rintro e w' ⟨rfl, h'⟩; obtain rfl := h'.symm; rw [H_3.out]) | (go_at_call 51; refine (im_1_false x hx _ _ _ hk (Grew.refl _)).mono ?_; rintro e w5 ⟨rfl, g5⟩; have g35 := (Grew.refl wa).drew1.trans g5; have kR5 := KR.out.grew g35; have r0 : w5.cell? ⟨w.heap.size, 0, none⟩ = some (.int .i64 0) := kR5.cell 0; have r1 : w5.cell? ⟨w.heap.size, 1, none⟩ = some (.int .i64 0) := kR5.cell 1; have r2 : w5.cell? ⟨w.heap.size, 2, none⟩ = some (.bool false) := kR5.cell 2; have r3 : w5.cell? ⟨w.heap.size, 3, none⟩ = some (.int .i64 0) := kR5.cell 3; have r4 : w5.cell? ⟨w.heap.size, 4, none⟩ = some (.int .i64 0) := kR5.cell 4; have r5 : w5.cell? ⟨w.heap.size, 5, none⟩ = some (.int .i64 0) := kR5.cell 5; have r6 : w5.cell? ⟨w.heap.size, 6, none⟩ = some (.int .u64 0) := kR5.cell 6; have fr : ∀ o, w5.frozen? ⟨w.heap.size, o, none⟩ = false := kR5.free; have hR := kR5.lt; clear kR5)) | fail)
  all_goals (
  go_wp2_with fail
  refine bodyPost_ret (v := .tuple #[.agg #[.int .i64 8, .int .i64 1, .bool false, .int .i64 (fN x 11 7 : Nat), .int .i64 (fN x 19 15 : Nat), .int .i64 0, .int .u64 (fN x 25 20 : Nat)], .bool (((fN x 31 26 : Nat) : Int) == 0)]) (by simp [results, Try.results28, go_sem, r0, r1, r2, r3, r4, r5, r6]) rfl ⟨rfl, (by repeat (first | with_reducible exact G0.trans g35 | with_reducible refine Grew.setCell ?_ (Nat.le_refl _) _))⟩)
set_option maxRecDepth 100000 in
set_option maxHeartbeats 4000000 in
theorem rd_19_5y (x : Nat) (hx : x < 4294967296) (ho : fN x 6 0 = 19) (hk : fN x 14 12 = 5) (hs : fN x 31 26 = 16) (w : World) :
    Calls Try.prog 28 #[.int .u32 (x : Nat)] w fun e w' => e = .returned (.tuple #[.agg #[.int .i64 8, .int .i64 13, .bool false, .int .i64 (fN x 11 7 : Nat), .int .i64 (fN x 19 15 : Nat), .int .i64 0, .int .u64 (fN x 25 20 : Nat)], .bool true]) ∧ Grew w w' := by
  have h_3 : ((fN x 3 3 : Nat) : Int) = 0 := by
    have e1 : fN x 3 3 = x / 8 % 2 := by simp [fN]
    have e2 : fN x 6 0 = x % 128 := by simp [fN]
    omega
  have H_3 := Lib.hid h_3
  clear h_3
  have b11_7 := fN_lt x 11 7 32 (by decide)
  have b19_15 := fN_lt x 19 15 32 (by decide)
  have b24_20 := fN_lt x 24 20 32 (by decide)
  have b14_12 := fN_lt x 14 12 8 (by decide)
  have b31_20 := fN_lt x 31 20 4096 (by decide)
  have b31_25 := fN_lt x 31 25 128 (by decide)
  have b31_27 := fN_lt x 31 27 32 (by decide)
  have b31_26 := fN_lt x 31 26 64 (by decide)
  have b25_20 := fN_lt x 25 20 64 (by decide)
  have h_o : ((fN x 6 0 : Nat) : Int) = 19 := by omega
  have H_o := Lib.hid h_o
  clear h_o
  go_enter Try.func28, Try.ntmps28
  go_wp2_with fail
  refine (r3f x hx 11 7 (by decide) (by decide) (by decide) _).mono ?_
  rintro e w1 ⟨rfl, h1⟩
  obtain rfl := h1.symm
  go_wp2_with fail
  refine (r3f x hx 19 15 (by decide) (by decide) (by decide) _).mono ?_
  rintro e w1 ⟨rfl, h1⟩
  obtain rfl := h1.symm
  go_wp2_with fail
  refine (r3f x hx 24 20 (by decide) (by decide) (by decide) _).mono ?_
  rintro e w1 ⟨rfl, h1⟩
  obtain rfl := h1.symm
  go_wp2_with fail
  refine (r3f x hx 14 12 (by decide) (by decide) (by decide) _).mono ?_
  rintro e w1 ⟨rfl, h1⟩
  obtain rfl := h1.symm
  go_wp2_with fail
  refine (r3f x hx 6 0 (by decide) (by decide) (by decide) _).mono ?_
  rintro e w1 ⟨rfl, h1⟩
  obtain rfl := h1.symm
  rw [H_o.out]
  go_wp2_with fail
  have kR := (Blk.new w #[.int .i64 0, .int .i64 0, .bool false, .int .i64 0, .int .i64 0, .int .i64 0, .int .u64 0] 26 w.heap.size rfl).alloc (.cells #[.int .i64 0, .int .i64 0, .bool false, .int .i64 (fN x 11 7 : Nat), .int .i64 (fN x 19 15 : Nat), .int .i64 (fN x 24 20 : Nat), .int .u64 0] 26)
  have kI := Blk.new (w.alloc (.cells #[.int .i64 0, .int .i64 0, .bool false, .int .i64 0, .int .i64 0, .int .i64 0, .int .u64 0] 26)) #[.int .i64 0, .int .i64 0, .bool false, .int .i64 (fN x 11 7 : Nat), .int .i64 (fN x 19 15 : Nat), .int .i64 (fN x 24 20 : Nat), .int .u64 0] 26 (w.heap.size + 1) (by simp)
  have G0 := ((Grew.refl w).alloc (.cells #[.int .i64 0, .int .i64 0, .bool false, .int .i64 0, .int .i64 0, .int .i64 0, .int .u64 0] 26)).alloc (.cells #[.int .i64 0, .int .i64 0, .bool false, .int .i64 (fN x 11 7 : Nat), .int .i64 (fN x 19 15 : Nat), .int .i64 (fN x 24 20 : Nat), .int .u64 0] 26)
  generalize (w.alloc (.cells #[.int .i64 0, .int .i64 0, .bool false, .int .i64 0, .int .i64 0, .int .i64 0, .int .u64 0] 26)).alloc (.cells #[.int .i64 0, .int .i64 0, .bool false, .int .i64 (fN x 11 7 : Nat), .int .i64 (fN x 19 15 : Nat), .int .i64 (fN x 24 20 : Nat), .int .u64 0] 26) = wa at *
  have i0 : wa.cell? ⟨w.heap.size + 1, 0, none⟩ = some (.int .i64 0) := kI.cell 0
  have i1 : wa.cell? ⟨w.heap.size + 1, 1, none⟩ = some (.int .i64 0) := kI.cell 1
  have i2 : wa.cell? ⟨w.heap.size + 1, 2, none⟩ = some (.bool false) := kI.cell 2
  have i3 : wa.cell? ⟨w.heap.size + 1, 3, none⟩ = some (.int .i64 (fN x 11 7 : Nat)) := kI.cell 3
  have i4 : wa.cell? ⟨w.heap.size + 1, 4, none⟩ = some (.int .i64 (fN x 19 15 : Nat)) := kI.cell 4
  have i5 : wa.cell? ⟨w.heap.size + 1, 5, none⟩ = some (.int .i64 (fN x 24 20 : Nat)) := kI.cell 5
  have i6 : wa.cell? ⟨w.heap.size + 1, 6, none⟩ = some (.int .u64 0) := kI.cell 6
  have hI := kI.lt
  have KR := Lib.hid kR
  clear kR kI
  (first | go_region_with (first | (go_at_call 49; refine (r3f x hx _ _ (by decide) (by decide) (by decide) _).mono ?_; rintro e w' ⟨rfl, h'⟩; obtain rfl := h'.symm; rw [H_3.out]) | (go_at_call 51; refine (im_5_false_y x hx _ _ _ hk hs (Grew.refl _)).mono ?_; rintro e w5 ⟨rfl, g5⟩; have g35 := (Grew.refl wa).drew1.trans g5; have kR5 := KR.out.grew g35; have r0 : w5.cell? ⟨w.heap.size, 0, none⟩ = some (.int .i64 0) := kR5.cell 0; have r1 : w5.cell? ⟨w.heap.size, 1, none⟩ = some (.int .i64 0) := kR5.cell 1; have r2 : w5.cell? ⟨w.heap.size, 2, none⟩ = some (.bool false) := kR5.cell 2; have r3 : w5.cell? ⟨w.heap.size, 3, none⟩ = some (.int .i64 0) := kR5.cell 3; have r4 : w5.cell? ⟨w.heap.size, 4, none⟩ = some (.int .i64 0) := kR5.cell 4; have r5 : w5.cell? ⟨w.heap.size, 5, none⟩ = some (.int .i64 0) := kR5.cell 5; have r6 : w5.cell? ⟨w.heap.size, 6, none⟩ = some (.int .u64 0) := kR5.cell 6; have fr : ∀ o, w5.frozen? ⟨w.heap.size, o, none⟩ = false := kR5.free; have hR := kR5.lt; clear kR5)) | fail)
  all_goals (
  go_wp2_with fail
  refine bodyPost_ret (v := .tuple #[.agg #[.int .i64 8, .int .i64 13, .bool false, .int .i64 (fN x 11 7 : Nat), .int .i64 (fN x 19 15 : Nat), .int .i64 0, .int .u64 (fN x 25 20 : Nat)], .bool true]) (by simp [results, Try.results28, go_sem, r0, r1, r2, r3, r4, r5, r6]) rfl ⟨rfl, (by repeat (first | with_reducible exact G0.trans g35 | with_reducible refine Grew.setCell ?_ (Nat.le_refl _) _))⟩)
set_option maxRecDepth 100000 in
set_option maxHeartbeats 4000000 in
theorem rd_19_5n (x : Nat) (hx : x < 4294967296) (ho : fN x 6 0 = 19) (hk : fN x 14 12 = 5) (hs : ¬ fN x 31 26 = 16) (w : World) :
    Calls Try.prog 28 #[.int .u32 (x : Nat)] w fun e w' => e = .returned (.tuple #[.agg #[.int .i64 8, .int .i64 5, .bool false, .int .i64 (fN x 11 7 : Nat), .int .i64 (fN x 19 15 : Nat), .int .i64 0, .int .u64 (fN x 25 20 : Nat)], .bool (((fN x 31 26 : Nat) : Int) == 0)]) ∧ Grew w w' := by
  have h_3 : ((fN x 3 3 : Nat) : Int) = 0 := by
    have e1 : fN x 3 3 = x / 8 % 2 := by simp [fN]
    have e2 : fN x 6 0 = x % 128 := by simp [fN]
    omega
  have H_3 := Lib.hid h_3
  clear h_3
  have b11_7 := fN_lt x 11 7 32 (by decide)
  have b19_15 := fN_lt x 19 15 32 (by decide)
  have b24_20 := fN_lt x 24 20 32 (by decide)
  have b14_12 := fN_lt x 14 12 8 (by decide)
  have b31_20 := fN_lt x 31 20 4096 (by decide)
  have b31_25 := fN_lt x 31 25 128 (by decide)
  have b31_27 := fN_lt x 31 27 32 (by decide)
  have b31_26 := fN_lt x 31 26 64 (by decide)
  have b25_20 := fN_lt x 25 20 64 (by decide)
  have h_o : ((fN x 6 0 : Nat) : Int) = 19 := by omega
  have H_o := Lib.hid h_o
  clear h_o
  go_enter Try.func28, Try.ntmps28
  go_wp2_with fail
  refine (r3f x hx 11 7 (by decide) (by decide) (by decide) _).mono ?_
  rintro e w1 ⟨rfl, h1⟩
  obtain rfl := h1.symm
  go_wp2_with fail
  refine (r3f x hx 19 15 (by decide) (by decide) (by decide) _).mono ?_
  rintro e w1 ⟨rfl, h1⟩
  obtain rfl := h1.symm
  go_wp2_with fail
  refine (r3f x hx 24 20 (by decide) (by decide) (by decide) _).mono ?_
  rintro e w1 ⟨rfl, h1⟩
  obtain rfl := h1.symm
  go_wp2_with fail
  refine (r3f x hx 14 12 (by decide) (by decide) (by decide) _).mono ?_
  rintro e w1 ⟨rfl, h1⟩
  obtain rfl := h1.symm
  go_wp2_with fail
  refine (r3f x hx 6 0 (by decide) (by decide) (by decide) _).mono ?_
  rintro e w1 ⟨rfl, h1⟩
  obtain rfl := h1.symm
  rw [H_o.out]
  go_wp2_with fail
  have kR := (Blk.new w #[.int .i64 0, .int .i64 0, .bool false, .int .i64 0, .int .i64 0, .int .i64 0, .int .u64 0] 26 w.heap.size rfl).alloc (.cells #[.int .i64 0, .int .i64 0, .bool false, .int .i64 (fN x 11 7 : Nat), .int .i64 (fN x 19 15 : Nat), .int .i64 (fN x 24 20 : Nat), .int .u64 0] 26)
  have kI := Blk.new (w.alloc (.cells #[.int .i64 0, .int .i64 0, .bool false, .int .i64 0, .int .i64 0, .int .i64 0, .int .u64 0] 26)) #[.int .i64 0, .int .i64 0, .bool false, .int .i64 (fN x 11 7 : Nat), .int .i64 (fN x 19 15 : Nat), .int .i64 (fN x 24 20 : Nat), .int .u64 0] 26 (w.heap.size + 1) (by simp)
  have G0 := ((Grew.refl w).alloc (.cells #[.int .i64 0, .int .i64 0, .bool false, .int .i64 0, .int .i64 0, .int .i64 0, .int .u64 0] 26)).alloc (.cells #[.int .i64 0, .int .i64 0, .bool false, .int .i64 (fN x 11 7 : Nat), .int .i64 (fN x 19 15 : Nat), .int .i64 (fN x 24 20 : Nat), .int .u64 0] 26)
  generalize (w.alloc (.cells #[.int .i64 0, .int .i64 0, .bool false, .int .i64 0, .int .i64 0, .int .i64 0, .int .u64 0] 26)).alloc (.cells #[.int .i64 0, .int .i64 0, .bool false, .int .i64 (fN x 11 7 : Nat), .int .i64 (fN x 19 15 : Nat), .int .i64 (fN x 24 20 : Nat), .int .u64 0] 26) = wa at *
  have i0 : wa.cell? ⟨w.heap.size + 1, 0, none⟩ = some (.int .i64 0) := kI.cell 0
  have i1 : wa.cell? ⟨w.heap.size + 1, 1, none⟩ = some (.int .i64 0) := kI.cell 1
  have i2 : wa.cell? ⟨w.heap.size + 1, 2, none⟩ = some (.bool false) := kI.cell 2
  have i3 : wa.cell? ⟨w.heap.size + 1, 3, none⟩ = some (.int .i64 (fN x 11 7 : Nat)) := kI.cell 3
  have i4 : wa.cell? ⟨w.heap.size + 1, 4, none⟩ = some (.int .i64 (fN x 19 15 : Nat)) := kI.cell 4
  have i5 : wa.cell? ⟨w.heap.size + 1, 5, none⟩ = some (.int .i64 (fN x 24 20 : Nat)) := kI.cell 5
  have i6 : wa.cell? ⟨w.heap.size + 1, 6, none⟩ = some (.int .u64 0) := kI.cell 6
  have hI := kI.lt
  have KR := Lib.hid kR
  clear kR kI
  (first | go_region_with (first | (go_at_call 49; refine (r3f x hx _ _ (by decide) (by decide) (by decide) _).mono ?_; rintro e w' ⟨rfl, h'⟩; obtain rfl := h'.symm; rw [H_3.out]) | (go_at_call 51; refine (im_5_false_n x hx _ _ _ hk hs (Grew.refl _)).mono ?_; rintro e w5 ⟨rfl, g5⟩; have g35 := (Grew.refl wa).drew1.trans g5; have kR5 := KR.out.grew g35; have r0 : w5.cell? ⟨w.heap.size, 0, none⟩ = some (.int .i64 0) := kR5.cell 0; have r1 : w5.cell? ⟨w.heap.size, 1, none⟩ = some (.int .i64 0) := kR5.cell 1; have r2 : w5.cell? ⟨w.heap.size, 2, none⟩ = some (.bool false) := kR5.cell 2; have r3 : w5.cell? ⟨w.heap.size, 3, none⟩ = some (.int .i64 0) := kR5.cell 3; have r4 : w5.cell? ⟨w.heap.size, 4, none⟩ = some (.int .i64 0) := kR5.cell 4; have r5 : w5.cell? ⟨w.heap.size, 5, none⟩ = some (.int .i64 0) := kR5.cell 5; have r6 : w5.cell? ⟨w.heap.size, 6, none⟩ = some (.int .u64 0) := kR5.cell 6; have fr : ∀ o, w5.frozen? ⟨w.heap.size, o, none⟩ = false := kR5.free; have hR := kR5.lt; clear kR5)) | fail)
  all_goals (
  go_wp2_with fail
  refine bodyPost_ret (v := .tuple #[.agg #[.int .i64 8, .int .i64 5, .bool false, .int .i64 (fN x 11 7 : Nat), .int .i64 (fN x 19 15 : Nat), .int .i64 0, .int .u64 (fN x 25 20 : Nat)], .bool (((fN x 31 26 : Nat) : Int) == 0)]) (by simp [results, Try.results28, go_sem, r0, r1, r2, r3, r4, r5, r6]) rfl ⟨rfl, (by repeat (first | with_reducible exact G0.trans g35 | with_reducible refine Grew.setCell ?_ (Nat.le_refl _) _))⟩)
set_option maxRecDepth 100000 in
set_option maxHeartbeats 4000000 in
theorem rd_27_o (x : Nat) (hx : x < 4294967296) (ho : fN x 6 0 = 27) (q1 : ¬ fN x 14 12 = 1) (q5 : ¬ fN x 14 12 = 5) (w : World) :
    Calls Try.prog 28 #[.int .u32 (x : Nat)] w fun e w' => e = .returned (.tuple #[.agg #[.int .i64 8, .int .i64 (fN x 14 12 : Nat), .bool true, .int .i64 (fN x 11 7 : Nat), .int .i64 (fN x 19 15 : Nat), .int .i64 0, .int .u64 (sextV (fN x 31 20 : Nat) 12)], .bool (((fN x 14 12 : Nat) : Int) == 0)]) ∧ Grew w w' := by
  have h_3 : ((fN x 3 3 : Nat) : Int) = 1 := by
    have e1 : fN x 3 3 = x / 8 % 2 := by simp [fN]
    have e2 : fN x 6 0 = x % 128 := by simp [fN]
    omega
  have H_3 := Lib.hid h_3
  clear h_3
  have b11_7 := fN_lt x 11 7 32 (by decide)
  have b19_15 := fN_lt x 19 15 32 (by decide)
  have b24_20 := fN_lt x 24 20 32 (by decide)
  have b14_12 := fN_lt x 14 12 8 (by decide)
  have b31_20 := fN_lt x 31 20 4096 (by decide)
  have b31_25 := fN_lt x 31 25 128 (by decide)
  have b31_27 := fN_lt x 31 27 32 (by decide)
  have b31_26 := fN_lt x 31 26 64 (by decide)
  have b25_20 := fN_lt x 25 20 64 (by decide)
  have h_o : ((fN x 6 0 : Nat) : Int) = 27 := by omega
  have H_o := Lib.hid h_o
  clear h_o
  go_enter Try.func28, Try.ntmps28
  go_wp2_with fail
  refine (r3f x hx 11 7 (by decide) (by decide) (by decide) _).mono ?_
  rintro e w1 ⟨rfl, h1⟩
  obtain rfl := h1.symm
  go_wp2_with fail
  refine (r3f x hx 19 15 (by decide) (by decide) (by decide) _).mono ?_
  rintro e w1 ⟨rfl, h1⟩
  obtain rfl := h1.symm
  go_wp2_with fail
  refine (r3f x hx 24 20 (by decide) (by decide) (by decide) _).mono ?_
  rintro e w1 ⟨rfl, h1⟩
  obtain rfl := h1.symm
  go_wp2_with fail
  refine (r3f x hx 14 12 (by decide) (by decide) (by decide) _).mono ?_
  rintro e w1 ⟨rfl, h1⟩
  obtain rfl := h1.symm
  go_wp2_with fail
  refine (r3f x hx 6 0 (by decide) (by decide) (by decide) _).mono ?_
  rintro e w1 ⟨rfl, h1⟩
  obtain rfl := h1.symm
  rw [H_o.out]
  go_wp2_with fail
  have kR := (Blk.new w #[.int .i64 0, .int .i64 0, .bool false, .int .i64 0, .int .i64 0, .int .i64 0, .int .u64 0] 26 w.heap.size rfl).alloc (.cells #[.int .i64 0, .int .i64 0, .bool false, .int .i64 (fN x 11 7 : Nat), .int .i64 (fN x 19 15 : Nat), .int .i64 (fN x 24 20 : Nat), .int .u64 0] 26)
  have kI := Blk.new (w.alloc (.cells #[.int .i64 0, .int .i64 0, .bool false, .int .i64 0, .int .i64 0, .int .i64 0, .int .u64 0] 26)) #[.int .i64 0, .int .i64 0, .bool false, .int .i64 (fN x 11 7 : Nat), .int .i64 (fN x 19 15 : Nat), .int .i64 (fN x 24 20 : Nat), .int .u64 0] 26 (w.heap.size + 1) (by simp)
  have G0 := ((Grew.refl w).alloc (.cells #[.int .i64 0, .int .i64 0, .bool false, .int .i64 0, .int .i64 0, .int .i64 0, .int .u64 0] 26)).alloc (.cells #[.int .i64 0, .int .i64 0, .bool false, .int .i64 (fN x 11 7 : Nat), .int .i64 (fN x 19 15 : Nat), .int .i64 (fN x 24 20 : Nat), .int .u64 0] 26)
  generalize (w.alloc (.cells #[.int .i64 0, .int .i64 0, .bool false, .int .i64 0, .int .i64 0, .int .i64 0, .int .u64 0] 26)).alloc (.cells #[.int .i64 0, .int .i64 0, .bool false, .int .i64 (fN x 11 7 : Nat), .int .i64 (fN x 19 15 : Nat), .int .i64 (fN x 24 20 : Nat), .int .u64 0] 26) = wa at *
  have i0 : wa.cell? ⟨w.heap.size + 1, 0, none⟩ = some (.int .i64 0) := kI.cell 0
  have i1 : wa.cell? ⟨w.heap.size + 1, 1, none⟩ = some (.int .i64 0) := kI.cell 1
  have i2 : wa.cell? ⟨w.heap.size + 1, 2, none⟩ = some (.bool false) := kI.cell 2
  have i3 : wa.cell? ⟨w.heap.size + 1, 3, none⟩ = some (.int .i64 (fN x 11 7 : Nat)) := kI.cell 3
  have i4 : wa.cell? ⟨w.heap.size + 1, 4, none⟩ = some (.int .i64 (fN x 19 15 : Nat)) := kI.cell 4
  have i5 : wa.cell? ⟨w.heap.size + 1, 5, none⟩ = some (.int .i64 (fN x 24 20 : Nat)) := kI.cell 5
  have i6 : wa.cell? ⟨w.heap.size + 1, 6, none⟩ = some (.int .u64 0) := kI.cell 6
  have hI := kI.lt
  have KR := Lib.hid kR
  clear kR kI
  (first | go_region_with (first | (go_at_call 49; refine (r3f x hx _ _ (by decide) (by decide) (by decide) _).mono ?_; rintro e w' ⟨rfl, h'⟩; obtain rfl := h'.symm; rw [H_3.out]) | (go_at_call 51; refine (im_o_true x hx _ _ _ q1 q5 (Grew.refl _)).mono ?_; rintro e w5 ⟨rfl, g5⟩; have g35 := (Grew.refl wa).drew1.trans g5; have kR5 := KR.out.grew g35; have r0 : w5.cell? ⟨w.heap.size, 0, none⟩ = some (.int .i64 0) := kR5.cell 0; have r1 : w5.cell? ⟨w.heap.size, 1, none⟩ = some (.int .i64 0) := kR5.cell 1; have r2 : w5.cell? ⟨w.heap.size, 2, none⟩ = some (.bool false) := kR5.cell 2; have r3 : w5.cell? ⟨w.heap.size, 3, none⟩ = some (.int .i64 0) := kR5.cell 3; have r4 : w5.cell? ⟨w.heap.size, 4, none⟩ = some (.int .i64 0) := kR5.cell 4; have r5 : w5.cell? ⟨w.heap.size, 5, none⟩ = some (.int .i64 0) := kR5.cell 5; have r6 : w5.cell? ⟨w.heap.size, 6, none⟩ = some (.int .u64 0) := kR5.cell 6; have fr : ∀ o, w5.frozen? ⟨w.heap.size, o, none⟩ = false := kR5.free; have hR := kR5.lt; clear kR5)) | fail)
  all_goals (
  go_wp2_with fail
  refine bodyPost_ret (v := .tuple #[.agg #[.int .i64 8, .int .i64 (fN x 14 12 : Nat), .bool true, .int .i64 (fN x 11 7 : Nat), .int .i64 (fN x 19 15 : Nat), .int .i64 0, .int .u64 (sextV (fN x 31 20 : Nat) 12)], .bool (((fN x 14 12 : Nat) : Int) == 0)]) (by simp [results, Try.results28, go_sem, r0, r1, r2, r3, r4, r5, r6]) rfl ⟨rfl, (by repeat (first | with_reducible exact G0.trans g35 | with_reducible refine Grew.setCell ?_ (Nat.le_refl _) _))⟩)
set_option maxRecDepth 100000 in
set_option maxHeartbeats 4000000 in
theorem rd_27_1 (x : Nat) (hx : x < 4294967296) (ho : fN x 6 0 = 27) (hk : fN x 14 12 = 1) (w : World) :
    Calls Try.prog 28 #[.int .u32 (x : Nat)] w fun e w' => e = .returned (.tuple #[.agg #[.int .i64 8, .int .i64 1, .bool true, .int .i64 (fN x 11 7 : Nat), .int .i64 (fN x 19 15 : Nat), .int .i64 0, .int .u64 (fN x 24 20 : Nat)], .bool (((fN x 31 25 : Nat) : Int) == 0)]) ∧ Grew w w' := by
  have h_3 : ((fN x 3 3 : Nat) : Int) = 1 := by
    have e1 : fN x 3 3 = x / 8 % 2 := by simp [fN]
    have e2 : fN x 6 0 = x % 128 := by simp [fN]
    omega
  have H_3 := Lib.hid h_3
  clear h_3
  have b11_7 := fN_lt x 11 7 32 (by decide)
  have b19_15 := fN_lt x 19 15 32 (by decide)
  have b24_20 := fN_lt x 24 20 32 (by decide)
  have b14_12 := fN_lt x 14 12 8 (by decide)
  have b31_20 := fN_lt x 31 20 4096 (by decide)
  have b31_25 := fN_lt x 31 25 128 (by decide)
  have b31_27 := fN_lt x 31 27 32 (by decide)
  have b31_26 := fN_lt x 31 26 64 (by decide)
  have b25_20 := fN_lt x 25 20 64 (by decide)
  have h_o : ((fN x 6 0 : Nat) : Int) = 27 := by omega
  have H_o := Lib.hid h_o
  clear h_o
  go_enter Try.func28, Try.ntmps28
  go_wp2_with fail
  refine (r3f x hx 11 7 (by decide) (by decide) (by decide) _).mono ?_
  rintro e w1 ⟨rfl, h1⟩
  obtain rfl := h1.symm
  go_wp2_with fail
  refine (r3f x hx 19 15 (by decide) (by decide) (by decide) _).mono ?_
  rintro e w1 ⟨rfl, h1⟩
  obtain rfl := h1.symm
  go_wp2_with fail
  refine (r3f x hx 24 20 (by decide) (by decide) (by decide) _).mono ?_
  rintro e w1 ⟨rfl, h1⟩
  obtain rfl := h1.symm
  go_wp2_with fail
  refine (r3f x hx 14 12 (by decide) (by decide) (by decide) _).mono ?_
  rintro e w1 ⟨rfl, h1⟩
  obtain rfl := h1.symm
  go_wp2_with fail
  refine (r3f x hx 6 0 (by decide) (by decide) (by decide) _).mono ?_
  rintro e w1 ⟨rfl, h1⟩
  obtain rfl := h1.symm
  rw [H_o.out]
  go_wp2_with fail
  have kR := (Blk.new w #[.int .i64 0, .int .i64 0, .bool false, .int .i64 0, .int .i64 0, .int .i64 0, .int .u64 0] 26 w.heap.size rfl).alloc (.cells #[.int .i64 0, .int .i64 0, .bool false, .int .i64 (fN x 11 7 : Nat), .int .i64 (fN x 19 15 : Nat), .int .i64 (fN x 24 20 : Nat), .int .u64 0] 26)
  have kI := Blk.new (w.alloc (.cells #[.int .i64 0, .int .i64 0, .bool false, .int .i64 0, .int .i64 0, .int .i64 0, .int .u64 0] 26)) #[.int .i64 0, .int .i64 0, .bool false, .int .i64 (fN x 11 7 : Nat), .int .i64 (fN x 19 15 : Nat), .int .i64 (fN x 24 20 : Nat), .int .u64 0] 26 (w.heap.size + 1) (by simp)
  have G0 := ((Grew.refl w).alloc (.cells #[.int .i64 0, .int .i64 0, .bool false, .int .i64 0, .int .i64 0, .int .i64 0, .int .u64 0] 26)).alloc (.cells #[.int .i64 0, .int .i64 0, .bool false, .int .i64 (fN x 11 7 : Nat), .int .i64 (fN x 19 15 : Nat), .int .i64 (fN x 24 20 : Nat), .int .u64 0] 26)
  generalize (w.alloc (.cells #[.int .i64 0, .int .i64 0, .bool false, .int .i64 0, .int .i64 0, .int .i64 0, .int .u64 0] 26)).alloc (.cells #[.int .i64 0, .int .i64 0, .bool false, .int .i64 (fN x 11 7 : Nat), .int .i64 (fN x 19 15 : Nat), .int .i64 (fN x 24 20 : Nat), .int .u64 0] 26) = wa at *
  have i0 : wa.cell? ⟨w.heap.size + 1, 0, none⟩ = some (.int .i64 0) := kI.cell 0
  have i1 : wa.cell? ⟨w.heap.size + 1, 1, none⟩ = some (.int .i64 0) := kI.cell 1
  have i2 : wa.cell? ⟨w.heap.size + 1, 2, none⟩ = some (.bool false) := kI.cell 2
  have i3 : wa.cell? ⟨w.heap.size + 1, 3, none⟩ = some (.int .i64 (fN x 11 7 : Nat)) := kI.cell 3
  have i4 : wa.cell? ⟨w.heap.size + 1, 4, none⟩ = some (.int .i64 (fN x 19 15 : Nat)) := kI.cell 4
  have i5 : wa.cell? ⟨w.heap.size + 1, 5, none⟩ = some (.int .i64 (fN x 24 20 : Nat)) := kI.cell 5
  have i6 : wa.cell? ⟨w.heap.size + 1, 6, none⟩ = some (.int .u64 0) := kI.cell 6
  have hI := kI.lt
  have KR := Lib.hid kR
  clear kR kI
  (first | go_region_with (first | (go_at_call 49; refine (r3f x hx _ _ (by decide) (by decide) (by decide) _).mono ?_; rintro e w' ⟨rfl, h'⟩; obtain rfl := h'.symm; rw [H_3.out]) | (go_at_call 51; refine (im_1_true x hx _ _ _ hk (Grew.refl _)).mono ?_; rintro e w5 ⟨rfl, g5⟩; have g35 := (Grew.refl wa).drew1.trans g5; have kR5 := KR.out.grew g35; have r0 : w5.cell? ⟨w.heap.size, 0, none⟩ = some (.int .i64 0) := kR5.cell 0; have r1 : w5.cell? ⟨w.heap.size, 1, none⟩ = some (.int .i64 0) := kR5.cell 1; have r2 : w5.cell? ⟨w.heap.size, 2, none⟩ = some (.bool false) := kR5.cell 2; have r3 : w5.cell? ⟨w.heap.size, 3, none⟩ = some (.int .i64 0) := kR5.cell 3; have r4 : w5.cell? ⟨w.heap.size, 4, none⟩ = some (.int .i64 0) := kR5.cell 4; have r5 : w5.cell? ⟨w.heap.size, 5, none⟩ = some (.int .i64 0) := kR5.cell 5; have r6 : w5.cell? ⟨w.heap.size, 6, none⟩ = some (.int .u64 0) := kR5.cell 6; have fr : ∀ o, w5.frozen? ⟨w.heap.size, o, none⟩ = false := kR5.free; have hR := kR5.lt; clear kR5)) | fail)
  all_goals (
  go_wp2_with fail
  refine bodyPost_ret (v := .tuple #[.agg #[.int .i64 8, .int .i64 1, .bool true, .int .i64 (fN x 11 7 : Nat), .int .i64 (fN x 19 15 : Nat), .int .i64 0, .int .u64 (fN x 24 20 : Nat)], .bool (((fN x 31 25 : Nat) : Int) == 0)]) (by simp [results, Try.results28, go_sem, r0, r1, r2, r3, r4, r5, r6]) rfl ⟨rfl, (by repeat (first | with_reducible exact G0.trans g35 | with_reducible refine Grew.setCell ?_ (Nat.le_refl _) _))⟩)
set_option maxRecDepth 100000 in
set_option maxHeartbeats 4000000 in
theorem rd_27_5y (x : Nat) (hx : x < 4294967296) (ho : fN x 6 0 = 27) (hk : fN x 14 12 = 5) (hs : fN x 31 25 = 32) (w : World) :
    Calls Try.prog 28 #[.int .u32 (x : Nat)] w fun e w' => e = .returned (.tuple #[.agg #[.int .i64 8, .int .i64 13, .bool true, .int .i64 (fN x 11 7 : Nat), .int .i64 (fN x 19 15 : Nat), .int .i64 0, .int .u64 (fN x 24 20 : Nat)], .bool true]) ∧ Grew w w' := by
  have h_3 : ((fN x 3 3 : Nat) : Int) = 1 := by
    have e1 : fN x 3 3 = x / 8 % 2 := by simp [fN]
    have e2 : fN x 6 0 = x % 128 := by simp [fN]
    omega
  have H_3 := Lib.hid h_3
  clear h_3
  have b11_7 := fN_lt x 11 7 32 (by decide)
  have b19_15 := fN_lt x 19 15 32 (by decide)
  have b24_20 := fN_lt x 24 20 32 (by decide)
  have b14_12 := fN_lt x 14 12 8 (by decide)
  have b31_20 := fN_lt x 31 20 4096 (by decide)
  have b31_25 := fN_lt x 31 25 128 (by decide)
  have b31_27 := fN_lt x 31 27 32 (by decide)
  have b31_26 := fN_lt x 31 26 64 (by decide)
  have b25_20 := fN_lt x 25 20 64 (by decide)
  have h_o : ((fN x 6 0 : Nat) : Int) = 27 := by omega
  have H_o := Lib.hid h_o
  clear h_o
  go_enter Try.func28, Try.ntmps28
  go_wp2_with fail
  refine (r3f x hx 11 7 (by decide) (by decide) (by decide) _).mono ?_
  rintro e w1 ⟨rfl, h1⟩
  obtain rfl := h1.symm
  go_wp2_with fail
  refine (r3f x hx 19 15 (by decide) (by decide) (by decide) _).mono ?_
  rintro e w1 ⟨rfl, h1⟩
  obtain rfl := h1.symm
  go_wp2_with fail
  refine (r3f x hx 24 20 (by decide) (by decide) (by decide) _).mono ?_
  rintro e w1 ⟨rfl, h1⟩
  obtain rfl := h1.symm
  go_wp2_with fail
  refine (r3f x hx 14 12 (by decide) (by decide) (by decide) _).mono ?_
  rintro e w1 ⟨rfl, h1⟩
  obtain rfl := h1.symm
  go_wp2_with fail
  refine (r3f x hx 6 0 (by decide) (by decide) (by decide) _).mono ?_
  rintro e w1 ⟨rfl, h1⟩
  obtain rfl := h1.symm
  rw [H_o.out]
  go_wp2_with fail
  have kR := (Blk.new w #[.int .i64 0, .int .i64 0, .bool false, .int .i64 0, .int .i64 0, .int .i64 0, .int .u64 0] 26 w.heap.size rfl).alloc (.cells #[.int .i64 0, .int .i64 0, .bool false, .int .i64 (fN x 11 7 : Nat), .int .i64 (fN x 19 15 : Nat), .int .i64 (fN x 24 20 : Nat), .int .u64 0] 26)
  have kI := Blk.new (w.alloc (.cells #[.int .i64 0, .int .i64 0, .bool false, .int .i64 0, .int .i64 0, .int .i64 0, .int .u64 0] 26)) #[.int .i64 0, .int .i64 0, .bool false, .int .i64 (fN x 11 7 : Nat), .int .i64 (fN x 19 15 : Nat), .int .i64 (fN x 24 20 : Nat), .int .u64 0] 26 (w.heap.size + 1) (by simp)
  have G0 := ((Grew.refl w).alloc (.cells #[.int .i64 0, .int .i64 0, .bool false, .int .i64 0, .int .i64 0, .int .i64 0, .int .u64 0] 26)).alloc (.cells #[.int .i64 0, .int .i64 0, .bool false, .int .i64 (fN x 11 7 : Nat), .int .i64 (fN x 19 15 : Nat), .int .i64 (fN x 24 20 : Nat), .int .u64 0] 26)
  generalize (w.alloc (.cells #[.int .i64 0, .int .i64 0, .bool false, .int .i64 0, .int .i64 0, .int .i64 0, .int .u64 0] 26)).alloc (.cells #[.int .i64 0, .int .i64 0, .bool false, .int .i64 (fN x 11 7 : Nat), .int .i64 (fN x 19 15 : Nat), .int .i64 (fN x 24 20 : Nat), .int .u64 0] 26) = wa at *
  have i0 : wa.cell? ⟨w.heap.size + 1, 0, none⟩ = some (.int .i64 0) := kI.cell 0
  have i1 : wa.cell? ⟨w.heap.size + 1, 1, none⟩ = some (.int .i64 0) := kI.cell 1
  have i2 : wa.cell? ⟨w.heap.size + 1, 2, none⟩ = some (.bool false) := kI.cell 2
  have i3 : wa.cell? ⟨w.heap.size + 1, 3, none⟩ = some (.int .i64 (fN x 11 7 : Nat)) := kI.cell 3
  have i4 : wa.cell? ⟨w.heap.size + 1, 4, none⟩ = some (.int .i64 (fN x 19 15 : Nat)) := kI.cell 4
  have i5 : wa.cell? ⟨w.heap.size + 1, 5, none⟩ = some (.int .i64 (fN x 24 20 : Nat)) := kI.cell 5
  have i6 : wa.cell? ⟨w.heap.size + 1, 6, none⟩ = some (.int .u64 0) := kI.cell 6
  have hI := kI.lt
  have KR := Lib.hid kR
  clear kR kI
  (first | go_region_with (first | (go_at_call 49; refine (r3f x hx _ _ (by decide) (by decide) (by decide) _).mono ?_; rintro e w' ⟨rfl, h'⟩; obtain rfl := h'.symm; rw [H_3.out]) | (go_at_call 51; refine (im_5_true_y x hx _ _ _ hk hs (Grew.refl _)).mono ?_; rintro e w5 ⟨rfl, g5⟩; have g35 := (Grew.refl wa).drew1.trans g5; have kR5 := KR.out.grew g35; have r0 : w5.cell? ⟨w.heap.size, 0, none⟩ = some (.int .i64 0) := kR5.cell 0; have r1 : w5.cell? ⟨w.heap.size, 1, none⟩ = some (.int .i64 0) := kR5.cell 1; have r2 : w5.cell? ⟨w.heap.size, 2, none⟩ = some (.bool false) := kR5.cell 2; have r3 : w5.cell? ⟨w.heap.size, 3, none⟩ = some (.int .i64 0) := kR5.cell 3; have r4 : w5.cell? ⟨w.heap.size, 4, none⟩ = some (.int .i64 0) := kR5.cell 4; have r5 : w5.cell? ⟨w.heap.size, 5, none⟩ = some (.int .i64 0) := kR5.cell 5; have r6 : w5.cell? ⟨w.heap.size, 6, none⟩ = some (.int .u64 0) := kR5.cell 6; have fr : ∀ o, w5.frozen? ⟨w.heap.size, o, none⟩ = false := kR5.free; have hR := kR5.lt; clear kR5)) | fail)
  all_goals (
  go_wp2_with fail
  refine bodyPost_ret (v := .tuple #[.agg #[.int .i64 8, .int .i64 13, .bool true, .int .i64 (fN x 11 7 : Nat), .int .i64 (fN x 19 15 : Nat), .int .i64 0, .int .u64 (fN x 24 20 : Nat)], .bool true]) (by simp [results, Try.results28, go_sem, r0, r1, r2, r3, r4, r5, r6]) rfl ⟨rfl, (by repeat (first | with_reducible exact G0.trans g35 | with_reducible refine Grew.setCell ?_ (Nat.le_refl _) _))⟩)
set_option maxRecDepth 100000 in
set_option maxHeartbeats 4000000 in
theorem rd_27_5n (x : Nat) (hx : x < 4294967296) (ho : fN x 6 0 = 27) (hk : fN x 14 12 = 5) (hs : ¬ fN x 31 25 = 32) (w : World) :
    Calls Try.prog 28 #[.int .u32 (x : Nat)] w fun e w' => e = .returned (.tuple #[.agg #[.int .i64 8, .int .i64 5, .bool true, .int .i64 (fN x 11 7 : Nat), .int .i64 (fN x 19 15 : Nat), .int .i64 0, .int .u64 (fN x 24 20 : Nat)], .bool (((fN x 31 25 : Nat) : Int) == 0)]) ∧ Grew w w' := by
  have h_3 : ((fN x 3 3 : Nat) : Int) = 1 := by
    have e1 : fN x 3 3 = x / 8 % 2 := by simp [fN]
    have e2 : fN x 6 0 = x % 128 := by simp [fN]
    omega
  have H_3 := Lib.hid h_3
  clear h_3
  have b11_7 := fN_lt x 11 7 32 (by decide)
  have b19_15 := fN_lt x 19 15 32 (by decide)
  have b24_20 := fN_lt x 24 20 32 (by decide)
  have b14_12 := fN_lt x 14 12 8 (by decide)
  have b31_20 := fN_lt x 31 20 4096 (by decide)
  have b31_25 := fN_lt x 31 25 128 (by decide)
  have b31_27 := fN_lt x 31 27 32 (by decide)
  have b31_26 := fN_lt x 31 26 64 (by decide)
  have b25_20 := fN_lt x 25 20 64 (by decide)
  have h_o : ((fN x 6 0 : Nat) : Int) = 27 := by omega
  have H_o := Lib.hid h_o
  clear h_o
  go_enter Try.func28, Try.ntmps28
  go_wp2_with fail
  refine (r3f x hx 11 7 (by decide) (by decide) (by decide) _).mono ?_
  rintro e w1 ⟨rfl, h1⟩
  obtain rfl := h1.symm
  go_wp2_with fail
  refine (r3f x hx 19 15 (by decide) (by decide) (by decide) _).mono ?_
  rintro e w1 ⟨rfl, h1⟩
  obtain rfl := h1.symm
  go_wp2_with fail
  refine (r3f x hx 24 20 (by decide) (by decide) (by decide) _).mono ?_
  rintro e w1 ⟨rfl, h1⟩
  obtain rfl := h1.symm
  go_wp2_with fail
  refine (r3f x hx 14 12 (by decide) (by decide) (by decide) _).mono ?_
  rintro e w1 ⟨rfl, h1⟩
  obtain rfl := h1.symm
  go_wp2_with fail
  refine (r3f x hx 6 0 (by decide) (by decide) (by decide) _).mono ?_
  rintro e w1 ⟨rfl, h1⟩
  obtain rfl := h1.symm
  rw [H_o.out]
  go_wp2_with fail
  have kR := (Blk.new w #[.int .i64 0, .int .i64 0, .bool false, .int .i64 0, .int .i64 0, .int .i64 0, .int .u64 0] 26 w.heap.size rfl).alloc (.cells #[.int .i64 0, .int .i64 0, .bool false, .int .i64 (fN x 11 7 : Nat), .int .i64 (fN x 19 15 : Nat), .int .i64 (fN x 24 20 : Nat), .int .u64 0] 26)
  have kI := Blk.new (w.alloc (.cells #[.int .i64 0, .int .i64 0, .bool false, .int .i64 0, .int .i64 0, .int .i64 0, .int .u64 0] 26)) #[.int .i64 0, .int .i64 0, .bool false, .int .i64 (fN x 11 7 : Nat), .int .i64 (fN x 19 15 : Nat), .int .i64 (fN x 24 20 : Nat), .int .u64 0] 26 (w.heap.size + 1) (by simp)
  have G0 := ((Grew.refl w).alloc (.cells #[.int .i64 0, .int .i64 0, .bool false, .int .i64 0, .int .i64 0, .int .i64 0, .int .u64 0] 26)).alloc (.cells #[.int .i64 0, .int .i64 0, .bool false, .int .i64 (fN x 11 7 : Nat), .int .i64 (fN x 19 15 : Nat), .int .i64 (fN x 24 20 : Nat), .int .u64 0] 26)
  generalize (w.alloc (.cells #[.int .i64 0, .int .i64 0, .bool false, .int .i64 0, .int .i64 0, .int .i64 0, .int .u64 0] 26)).alloc (.cells #[.int .i64 0, .int .i64 0, .bool false, .int .i64 (fN x 11 7 : Nat), .int .i64 (fN x 19 15 : Nat), .int .i64 (fN x 24 20 : Nat), .int .u64 0] 26) = wa at *
  have i0 : wa.cell? ⟨w.heap.size + 1, 0, none⟩ = some (.int .i64 0) := kI.cell 0
  have i1 : wa.cell? ⟨w.heap.size + 1, 1, none⟩ = some (.int .i64 0) := kI.cell 1
  have i2 : wa.cell? ⟨w.heap.size + 1, 2, none⟩ = some (.bool false) := kI.cell 2
  have i3 : wa.cell? ⟨w.heap.size + 1, 3, none⟩ = some (.int .i64 (fN x 11 7 : Nat)) := kI.cell 3
  have i4 : wa.cell? ⟨w.heap.size + 1, 4, none⟩ = some (.int .i64 (fN x 19 15 : Nat)) := kI.cell 4
  have i5 : wa.cell? ⟨w.heap.size + 1, 5, none⟩ = some (.int .i64 (fN x 24 20 : Nat)) := kI.cell 5
  have i6 : wa.cell? ⟨w.heap.size + 1, 6, none⟩ = some (.int .u64 0) := kI.cell 6
  have hI := kI.lt
  have KR := Lib.hid kR
  clear kR kI
  (first | go_region_with (first | (go_at_call 49; refine (r3f x hx _ _ (by decide) (by decide) (by decide) _).mono ?_; rintro e w' ⟨rfl, h'⟩; obtain rfl := h'.symm; rw [H_3.out]) | (go_at_call 51; refine (im_5_true_n x hx _ _ _ hk hs (Grew.refl _)).mono ?_; rintro e w5 ⟨rfl, g5⟩; have g35 := (Grew.refl wa).drew1.trans g5; have kR5 := KR.out.grew g35; have r0 : w5.cell? ⟨w.heap.size, 0, none⟩ = some (.int .i64 0) := kR5.cell 0; have r1 : w5.cell? ⟨w.heap.size, 1, none⟩ = some (.int .i64 0) := kR5.cell 1; have r2 : w5.cell? ⟨w.heap.size, 2, none⟩ = some (.bool false) := kR5.cell 2; have r3 : w5.cell? ⟨w.heap.size, 3, none⟩ = some (.int .i64 0) := kR5.cell 3; have r4 : w5.cell? ⟨w.heap.size, 4, none⟩ = some (.int .i64 0) := kR5.cell 4; have r5 : w5.cell? ⟨w.heap.size, 5, none⟩ = some (.int .i64 0) := kR5.cell 5; have r6 : w5.cell? ⟨w.heap.size, 6, none⟩ = some (.int .u64 0) := kR5.cell 6; have fr : ∀ o, w5.frozen? ⟨w.heap.size, o, none⟩ = false := kR5.free; have hR := kR5.lt; clear kR5)) | fail)
  all_goals (
  go_wp2_with fail
  refine bodyPost_ret (v := .tuple #[.agg #[.int .i64 8, .int .i64 5, .bool true, .int .i64 (fN x 11 7 : Nat), .int .i64 (fN x 19 15 : Nat), .int .i64 0, .int .u64 (fN x 24 20 : Nat)], .bool (((fN x 31 25 : Nat) : Int) == 0)]) (by simp [results, Try.results28, go_sem, r0, r1, r2, r3, r4, r5, r6]) rfl ⟨rfl, (by repeat (first | with_reducible exact G0.trans g35 | with_reducible refine Grew.setCell ?_ (Nat.le_refl _) _))⟩)
end Go.Proofs.Ytgekmhcekkmdhaa
