/-
  The table of readers, and which one is told (readerOf).
-/
import Derived.Test.YtpehfmchcjanhaaDoorCsrB
set_option linter.unusedVariables false
set_option linter.unusedSimpArgs false
namespace Go.Proofs.YtpehfmchcjanhaaDoor
open Go.RowKit

abbrev fvR (k : FuncId) : Value := .func (.func k) #[] #[]

/-- The table's numbers, its readers; the two side by side, as they lie in memory. -/
def numR : Array Int := #[256, 260, 261, 320, 321, 322, 323, 324, 384, 768, 769, 770, 771, 772, 773, 832, 833, 834, 835, 836, 2816, 3072, 3857, 3858, 3859, 3860]
def funR : Array FuncId := #[32, 33, 34, 35, 36, 37, 38, 39, 40, 41, 42, 43, 44, 45, 46, 47, 48, 49, 50, 51, 52, 52, 53, 53, 53, 53]
def tabR : Array Value := #[.int .i64 256, fvR 32, .int .i64 260, fvR 33, .int .i64 261, fvR 34, .int .i64 320, fvR 35, .int .i64 321, fvR 36, .int .i64 322, fvR 37, .int .i64 323, fvR 38, .int .i64 324, fvR 39, .int .i64 384, fvR 40, .int .i64 768, fvR 41, .int .i64 769, fvR 42, .int .i64 770, fvR 43, .int .i64 771, fvR 44, .int .i64 772, fvR 45, .int .i64 773, fvR 46, .int .i64 832, fvR 47, .int .i64 833, fvR 48, .int .i64 834, fvR 49, .int .i64 835, fvR 50, .int .i64 836, fvR 51, .int .i64 2816, fvR 52, .int .i64 3072, fvR 52, .int .i64 3857, fvR 53, .int .i64 3858, fvR 53, .int .i64 3859, fvR 53, .int .i64 3860, fvR 53]
theorem tabR_one : (tabR.all fun x => x.oneCell') = true := by kernel_rfl
theorem tabR_info : (Tryd.prog.info? 61).map (·.size) = some tabR.size := by kernel_rfl
def nmR (k : Nat) : Int := numR.getD k 0
def fnR (k : Nat) : FuncId := funR.getD k 0
theorem nm_apart : ((List.range 26).all fun p => (List.range p).all fun k => nmR k != nmR p) = true := by kernel_rfl
theorem nm_ne {k p : Nat} (hp : p < 26) (hk : k < p) : (nmR k == nmR p) = false := by
  have h1 := List.all_eq_true.1 nm_apart p (List.mem_range.2 hp)
  have h2 := List.all_eq_true.1 h1 k (List.mem_range.2 hk)
  simpa using h2
theorem row_at (k : Nat) (hk : k < 26) (w : World) : (Instr.index 61 (.agg tabR) (.int .i64 (k : Nat))).run Tryd.prog w = .ok (.agg #[.int .i64 (nmR k), fvR (fnR k)]) w := by
  obtain rfl | rfl | rfl | rfl | rfl | rfl | rfl | rfl | rfl | rfl | rfl | rfl | rfl | rfl | rfl | rfl | rfl | rfl | rfl | rfl | rfl | rfl | rfl | rfl | rfl | rfl : k = 0 ∨ k = 1 ∨ k = 2 ∨ k = 3 ∨ k = 4 ∨ k = 5 ∨ k = 6 ∨ k = 7 ∨ k = 8 ∨ k = 9 ∨ k = 10 ∨ k = 11 ∨ k = 12 ∨ k = 13 ∨ k = 14 ∨ k = 15 ∨ k = 16 ∨ k = 17 ∨ k = 18 ∨ k = 19 ∨ k = 20 ∨ k = 21 ∨ k = 22 ∨ k = 23 ∨ k = 24 ∨ k = 25 := by omega
  all_goals kernel_rfl


theorem ld_tab {ops : Array Oper} {rest : List Oper} {o : Oper} {a : Act} {w : World} {Q : Exit → Act → World → Prop} (hgd : o.guard = none) (x : Operand) (ho : o.op = .load 61 x) (d : Option Tmp) (hd : o.dst = d) {g : Nat} {T : TypeId}
    (k : Blk w g tabR T) (hx : a.eval x = .pointer (some ⟨g, 0, none⟩)) (h : wpList Tryd.prog ops Q rest (a.put d (.agg tabR)) w) : wpList Tryd.prog ops Q (o :: rest) a w := by
  subst hd
  exact wpList_load_row hgd _ x ho g hx T tabR (0, 0) _ k Tryd.underlying61 rfl tabR_info h


set_option maxRecDepth 100000 in
set_option maxHeartbeats 1000000 in
theorem readerOf_yes (p : Nat) (hp : p < 26) {W w : World} (hg : Grew W w) :
    Calls Tryd.prog 22 #[.int .i64 (nmR p)] w fun e w' => e = .returned (fvR (fnR p)) ∧ Grew W w' := by
  have HP := Lib.hid hp
  clear hp
  go_enter Tryd.func22, Tryd.ntmps22
  go_wp2_with (first
    | ((with_reducible refine wpList_store_rowTo (P := Tryd.prog) rfl 61 (.tmp 3) (.tmp 32) rfl rfl _ tabR ?_ ?_ 61 _ (heap_alloc_last _ _) tabR_info ?_ ?_ ?_); (rotate_left 4); rw [World.setRow_alloc_new]; have kb := Blk.new w tabR 61 w.heap.size rfl; have gb := hg.alloc (.cells tabR 61); generalize (w.alloc (.cells tabR 61)) = wb at *)
    | ((with_reducible refine ld_tab rfl (.tmp 3) rfl _ rfl kb ?_ ?_); (rotate_left 1)))
  rotate_left 1
  all_goals first | (show Value.pointer _ = Value.pointer _; simp; done) | rfl | exact tabR_one | skip
  clear kb
  go_loopw [34] (fun i wr => ∃ k : Nat, k ≤ p ∧ i = .int .i64 k ∧ Grew W wr) (fun i _ => p - (intOf i).toNat)
  case atStart => exact ⟨0, Nat.zero_le _, rfl, gb⟩
  case round =>
    obtain ⟨k, hk, rfl, gk⟩ := hrel
    have hp := HP.out
    have hk26 : k < 26 := by omega
    have hrow := row_at k hk26
    by_cases hlt : k < p
    · have hne := nm_ne hp hlt
      have hx1 : (k : Int) < 26 := by omega
      clear hp hk26
      go_wp2
      go_roundw
      case rel => exact ⟨k + 1, by omega, by go_num, gk.alloc _⟩
      case measure => simp [intOf]; omega
    · obtain rfl : k = p := by omega
      have hx1 : (k : Int) < 26 := by omega
      clear hp hk26
      go_wp2
      go_ret
      exact ⟨rfl, gk.alloc _⟩


set_option maxRecDepth 100000 in
set_option maxHeartbeats 1000000 in
theorem readerOf_no (n : Int) (hp : ∀ k, k < 26 → (nmR k == n) = false) {W w : World} (hg : Grew W w) :
    Calls Tryd.prog 22 #[.int .i64 n] w fun e w' => e = .returned .nilFunc ∧ Grew W w' := by
  have HP := Lib.hid hp
  clear hp
  go_enter Tryd.func22, Tryd.ntmps22
  go_wp2_with (first
    | ((with_reducible refine wpList_store_rowTo (P := Tryd.prog) rfl 61 (.tmp 3) (.tmp 32) rfl rfl _ tabR ?_ ?_ 61 _ (heap_alloc_last _ _) tabR_info ?_ ?_ ?_); (rotate_left 4); rw [World.setRow_alloc_new]; have kb := Blk.new w tabR 61 w.heap.size rfl; have gb := hg.alloc (.cells tabR 61); generalize (w.alloc (.cells tabR 61)) = wb at *)
    | ((with_reducible refine ld_tab rfl (.tmp 3) rfl _ rfl kb ?_ ?_); (rotate_left 1)))
  rotate_left 1
  all_goals first | (show Value.pointer _ = Value.pointer _; simp; done) | rfl | exact tabR_one | skip
  clear kb
  go_loopw [34] (fun i wr => ∃ k : Nat, k ≤ 26 ∧ i = .int .i64 k ∧ Grew W wr) (fun i _ => 26 - (intOf i).toNat)
  case atStart => exact ⟨0, Nat.zero_le _, rfl, gb⟩
  case round =>
    obtain ⟨k, hk, rfl, gk⟩ := hrel
    by_cases hlt : k < 26
    · have hrow := row_at k hlt
      have hne := HP.out k hlt
      have hx1 : (k : Int) < 26 := by omega
      go_wp2
      go_roundw
      case rel => exact ⟨k + 1, by omega, by go_num, gk.alloc _⟩
      case measure => simp [intOf]; omega
    · obtain rfl : k = 26 := by omega
      go_wp2
      go_ret
      exact ⟨rfl, gk⟩

end Go.Proofs.YtpehfmchcjanhaaDoor
