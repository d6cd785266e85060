/-
  Contracts of package alu: the table of sums, and Do.
-/
import Derived.Test.YtgekmhcekkmdhaaAluC
import Derived.Deep.WholeRow
import Derived.Great.BuildSlice
set_option linter.unusedVariables false
set_option linter.unusedSimpArgs false
namespace Go.Proofs.Ytgekmhcekkmdhaa
open Go.RowKit

def fvA (k : FuncId) : Value := .func (.func k) #[] #[]
/-- The table of sums: of each f what is done, and how words are made (nil: of words there is none). -/
def tabA : Array Value := #[
  fvA 64, fvA 38,
  fvA 65, fvA 66,
  fvA 67, .nilFunc,
  fvA 68, .nilFunc,
  fvA 69, .nilFunc,
  fvA 70, fvA 66,
  fvA 71, .nilFunc,
  fvA 72, .nilFunc,
  fvA 73, fvA 38,
  .nilFunc, .nilFunc, .nilFunc, .nilFunc, .nilFunc, .nilFunc, .nilFunc, .nilFunc,
  fvA 74, fvA 75,
  .nilFunc, .nilFunc, .nilFunc, .nilFunc,
  fvA 76, fvA 38,
  fvA 77, .nilFunc,
  fvA 78, .nilFunc,
  fvA 79, .nilFunc,
  fvA 80, fvA 38,
  fvA 81, fvA 82,
  fvA 83, fvA 38,
  fvA 84, fvA 82]
theorem tabA_one : (tabA.all fun x => x.oneCell') = true := by kernel_rfl
theorem tabA_info : (Try.prog.info? 81).map (·.size) = some tabA.size := by kernel_rfl

theorem tabA_cell {i : Nat} {v : Value} (h : tabA[i]? = some v) : v.oneCell' = true := by
  obtain ⟨hi, rfl⟩ := Array.getElem?_eq_some_iff.1 h
  exact Array.all_eq_true.1 tabA_one i hi

set_option maxRecDepth 100000 in
set_option maxHeartbeats 1000000 in
theorem sumOf_v (n : Nat) (hn : n < 24) (d m : Value) (hd : tabA[n * 2]? = some d) (hm : tabA[n * 2 + 1]? = some m) {W w : World} (hg : Grew W w) :
    Calls Try.prog 32 #[.int .i64 (n : Nat)] w fun e w' => e = .returned (.agg #[d, m]) ∧ Grew W w' := by
  have od := tabA_cell hd
  have om := tabA_cell hm
  have sd : ∀ (a : Addr) (w : World), (store a d).run Try.prog w = stored Try.prog w a d .plain := fun a w => run_store _ w a d _ od
  have sm : ∀ (a : Addr) (w : World), (store a m).run Try.prog w = stored Try.prog w a m .plain := fun a w => run_store _ w a m _ om
  clear od om
  have HD := Lib.hid hd
  have HM := Lib.hid hm
  clear hd hm
  have gs : W.heap.size ≤ w.heap.size := hg.size
  have n0 : (0 : Int) ≤ (n : Int) := Int.natCast_nonneg _
  have n1 : (n : Int) < 24 := by omega
  go_enter Try.func32, Try.ntmps32
  go_wp2_with ((with_reducible refine wpList_store_rowTo (P := Try.prog) rfl 81 (.tmp 3) (.tmp 22) rfl rfl _ tabA ?_ ?_ 81 _ (heap_alloc_last _ _) tabA_info ?_ ?_ ?_); (rotate_left 4); rw [World.setRow_alloc_new]; have kb := Blk.new (w.alloc (.cells #[.nilFunc, .nilFunc] 56)) tabA 81 (w.heap.size + 1) (by simp); have kr := (Blk.new w #[.nilFunc, .nilFunc] 56 w.heap.size rfl).alloc (.cells tabA 81); have gb := (hg.alloc (.cells #[.nilFunc, .nilFunc] 56)).alloc (.cells tabA 81); generalize hwb : ((w.alloc (.cells #[.nilFunc, .nilFunc] 56)).alloc (.cells tabA 81)) = wb at *; have c0 : wb.cell? ⟨w.heap.size + 1, n * 2, none⟩ = some d := (by rw [kb.cell]; exact HD.out); have c1 : wb.cell? ⟨w.heap.size + 1, n * 2 + 1, none⟩ = some m := (by rw [kb.cell]; exact HM.out); have f0 := kr.free 0; have f1 := kr.free 1; have r0 : wb.cell? ⟨w.heap.size, 0, none⟩ = some .nilFunc := (by rw [kr.cell]; rfl); have r1 : wb.cell? ⟨w.heap.size, 1, none⟩ = some .nilFunc := (by rw [kr.cell]; rfl); have lr := kr.lt; have kz := Blk.set (o := 1) (Blk.set (o := 0) kr d) m; clear hwb kb kr)
  case refine_1 =>
    show Value.pointer (some ⟨w.heap.size + 1, 0, none⟩) = _
    simp
  case refine_2 => rfl
  case refine_3 => rfl
  case refine_4 => exact tabA_one
  have gz : Grew W ((wb.setCell ⟨w.heap.size, 0, none⟩ d).setCell ⟨w.heap.size, 1, none⟩ m) := (gb.setCell gs _).setCell gs _
  generalize (wb.setCell ⟨w.heap.size, 0, none⟩ d).setCell ⟨w.heap.size, 1, none⟩ m = wz at *
  have z0 : wz.cell? ⟨w.heap.size, 0, none⟩ = some d := kz.cell 0
  have z1 : wz.cell? ⟨w.heap.size, 1, none⟩ = some m := kz.cell 1
  exact bodyPost_ret (v := .agg #[d, m]) (by simp [results, Try.results32, go_sem, z0, z1]) rfl ⟨rfl, gz⟩

set_option maxRecDepth 100000 in
set_option maxHeartbeats 1000000 in
theorem sumOf_none (f : Int) (h : f < 0 ∨ 24 ≤ f) {W w : World} (hg : Grew W w) :
    Calls Try.prog 32 #[.int .i64 f] w fun e w' => e = .returned (.agg #[.nilFunc, .nilFunc]) ∧ Grew W w' := by
  have gs : W.heap.size ≤ w.heap.size := hg.size
  rcases h with h | h
  all_goals
    go_enter Try.func32, Try.ntmps32
    go_wp2_with ((with_reducible refine wpList_store_rowTo (P := Try.prog) rfl 81 (.tmp 3) (.tmp 22) rfl rfl _ tabA ?_ ?_ 81 _ (heap_alloc_last _ _) tabA_info ?_ ?_ ?_); (rotate_left 4); rw [World.setRow_alloc_new]; have kr := (Blk.new w #[.nilFunc, .nilFunc] 56 w.heap.size rfl).alloc (.cells tabA 81); have gb := (hg.alloc (.cells #[.nilFunc, .nilFunc] 56)).alloc (.cells tabA 81); generalize hwb : ((w.alloc (.cells #[.nilFunc, .nilFunc] 56)).alloc (.cells tabA 81)) = wb at *; have f0 := kr.free 0; have f1 := kr.free 1; have r0 : wb.cell? ⟨w.heap.size, 0, none⟩ = some .nilFunc := (by rw [kr.cell]; rfl); have r1 : wb.cell? ⟨w.heap.size, 1, none⟩ = some .nilFunc := (by rw [kr.cell]; rfl); have lr := kr.lt; have kz := Blk.set (o := 1) (Blk.set (o := 0) kr .nilFunc) .nilFunc; clear hwb kr)
    case refine_1 =>
      show Value.pointer (some ⟨w.heap.size + 1, 0, none⟩) = _
      simp
    case refine_2 => rfl
    case refine_3 => rfl
    case refine_4 => exact tabA_one
    have gz : Grew W ((wb.setCell ⟨w.heap.size, 0, none⟩ .nilFunc).setCell ⟨w.heap.size, 1, none⟩ .nilFunc) := (gb.setCell gs _).setCell gs _
    generalize (wb.setCell ⟨w.heap.size, 0, none⟩ .nilFunc).setCell ⟨w.heap.size, 1, none⟩ .nilFunc = wz at *
    have z0 : wz.cell? ⟨w.heap.size, 0, none⟩ = some .nilFunc := kz.cell 0
    have z1 : wz.cell? ⟨w.heap.size, 1, none⟩ = some .nilFunc := kz.cell 1
    exact bodyPost_ret (v := .agg #[.nilFunc, .nilFunc]) (by simp [results, Try.results32, go_sem, z0, z1]) rfl ⟨rfl, gz⟩

end Go.Proofs.Ytgekmhcekkmdhaa
