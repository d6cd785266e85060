/-
  Contracts of the document's own text about instructions: Branch's row, f 2.
-/
import Derived.Test.YtgekmhcekkmdhaaDecR4
import Derived.Deep.DeepCutAuto
set_option linter.unusedVariables false
set_option linter.unusedSimpArgs false
namespace Go.Proofs.Ytgekmhcekkmdhaa
open Go Go.RowKit

theorem wi2 : IntKind.i64.wrap 2 = 2 := by rfl
set_option maxRecDepth 100000 in
set_option maxHeartbeats 40000000 in
theorem rd_99_2 (x : Nat) (hx : x < 4294967296) (ho : fN x 6 0 = 99) (hf : fN x 14 12 = 2) (w : World) :
    Calls Try.prog 28 #[.int .u32 (x : Nat)] w fun e w' => e = .returned (.tuple #[.agg #[.int .i64 5, .int .i64 2, .bool false, .int .i64 0, .int .i64 (fN x 19 15 : Nat), .int .i64 (fN x 24 20 : Nat), .int .u64 (sextV ((fN x 31 31 * 4096 ||| fN x 30 25 * 32 ||| fN x 11 8 * 2 ||| fN x 7 7 * 2048 : Nat) : Int) 13)], .bool false]) ∧ Grew w w' := by
  have b31_31 := fN_lt x 31 31 2 (by decide)
  have b30_25 := fN_lt x 30 25 64 (by decide)
  have b11_8 := fN_lt x 11 8 16 (by decide)
  have b7_7 := fN_lt x 7 7 2 (by decide)
  have b11_7 := fN_lt x 11 7 32 (by decide)
  have b19_15 := fN_lt x 19 15 32 (by decide)
  have b24_20 := fN_lt x 24 20 32 (by decide)
  have b14_12 := fN_lt x 14 12 8 (by decide)
  have b31_20 := fN_lt x 31 20 4096 (by decide)
  have b31_25 := fN_lt x 31 25 128 (by decide)
  have b31_27 := fN_lt x 31 27 32 (by decide)
  have b31_26 := fN_lt x 31 26 64 (by decide)
  have b25_20 := fN_lt x 25 20 64 (by decide)
  have h_o : ((fN x 6 0 : Nat) : Int) = 99 := by omega
  have H_o := Lib.hid h_o
  clear h_o
  have h_k : ((fN x 14 12 : Nat) : Int) = 2 := by omega
  have H_k := Lib.hid h_k
  clear h_k
  go_enter Try.func28, Try.ntmps28
  go_wp2_with fail
  refine (r3f x hx 11 7 (by decide) (by decide) (by decide) _).mono ?_
  rintro e w1 ⟨rfl, h1⟩
  obtain rfl := h1.symm
  go_wp2_with fail
  refine (r3f x hx 19 15 (by decide) (by decide) (by decide) _).mono ?_
  rintro e w1 ⟨rfl, h1⟩
  obtain rfl := h1.symm
  go_wp2_with fail
  refine (r3f x hx 24 20 (by decide) (by decide) (by decide) _).mono ?_
  rintro e w1 ⟨rfl, h1⟩
  obtain rfl := h1.symm
  go_wp2_with fail
  refine (r3f x hx 14 12 (by decide) (by decide) (by decide) _).mono ?_
  rintro e w1 ⟨rfl, h1⟩
  obtain rfl := h1.symm
  rw [H_k.out]
  go_wp2_with fail
  refine (r3f x hx 6 0 (by decide) (by decide) (by decide) _).mono ?_
  rintro e w1 ⟨rfl, h1⟩
  obtain rfl := h1.symm
  rw [H_o.out]
  go_wp2_with fail
  refine (r3f x hx 31 31 (by decide) (by decide) (by decide) _).mono ?_
  rintro e w1 ⟨rfl, h1⟩
  obtain rfl := h1.symm
  go_wp2_with fail
  refine (r3f x hx 30 25 (by decide) (by decide) (by decide) _).mono ?_
  rintro e w1 ⟨rfl, h1⟩
  obtain rfl := h1.symm
  go_wp2_with fail
  refine (r3f x hx 11 8 (by decide) (by decide) (by decide) _).mono ?_
  rintro e w1 ⟨rfl, h1⟩
  obtain rfl := h1.symm
  go_wp2_with fail
  refine (r3f x hx 7 7 (by decide) (by decide) (by decide) _).mono ?_
  rintro e w1 ⟨rfl, h1⟩
  obtain rfl := h1.symm
  go_wp2_with fail
  (first | go_region_with ((go_at_call 50; refine (r3z _ (bitsIn _ _).1 (bitsIn _ _).2 _ _).mono ?_; rintro e w' ⟨rfl, h'⟩; obtain rfl := h'.symm)) | fail)
  all_goals (
  go_wp2_with fail
  go_returns
  refine ⟨?_, (by repeat (first | with_reducible exact Grew.refl _ | with_reducible refine Grew.alloc ?_ _ | with_reducible refine Grew.drewN ?_ _ | with_reducible refine Grew.drew1 ?_ | with_reducible refine Grew.setCell ?_ (by simp) _))⟩
  simp (disch := (repeat (first | omega | apply or64_lt))) only [mulc, or64, or64_lit, wrap64c, wi2])
end Go.Proofs.Ytgekmhcekkmdhaa
