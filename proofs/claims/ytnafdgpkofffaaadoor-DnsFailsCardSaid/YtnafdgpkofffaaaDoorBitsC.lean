/-
  Contracts of the document's own Put, Get, Same.
-/
import Derived.Test.YtnafdgpkofffaaaDoorRows
import Derived.Test.YtnafdgpkofffaaaDoorBitsB
import Derived.WalkKit
import Derived.Outline
import Derived.Deep.QuietTactic
import Derived.BigQuiet
import Derived.Deep.DeepCutAuto
import Derived.Deep.RegionWith
import Derived.Laws.AppendOwnNone
set_option maxRecDepth 4000
set_option linter.unusedVariables false
set_option linter.unusedSimpArgs false
namespace Go.Proofs.YtnafdgpkofffaaaDoor
open Go.RowKit

/-! ### Strings of bytes -/
theorem convert_bytes {w : World} {v : Value} {xs : List Int} (h : BytesIn w v xs) : (convert 22 9 v).run Tryd.prog w = .ok (.string (strOfNums xs)) w := by
  rcases h with ⟨a, c, rfl, rfl⟩ | ⟨b, off, c, rfl, h⟩
  · rcases a with _ | a
    case some =>
      rw [run_convert_bytes_string w 22 9 5 _ 0 c Tryd.underlying22 Tryd.underlying5 Tryd.underlying9]
      rw [run_bytesToString w a 0 c [] (by rfl)]
      rfl
    rw [run_convert_bytes_nil w 22 5 Tryd.underlying22 Tryd.underlying5 0 c 9 Tryd.underlying9]; rfl
  · exact run_convert_bytes_arg w 22 5 Tryd.underlying22 Tryd.underlying5 b off xs.length c xs rfl h 9 Tryd.underlying9

theorem same_c {v u : Value} {xs : List Int} (w : World) (hv : BytesIn w v xs) (hu : BytesIn w u xs) :
    Calls Tryd.prog 13 #[v, u] w fun e w' => e = .returned (.bool true) ∧ w' = w := by
  have e1 := convert_bytes hv
  have e2 := convert_bytes hu
  clear hv hu
  go_enter Tryd.func13, Tryd.ntmps13
  go_wp2
  go_ret
  exact ⟨rfl, rfl⟩

/-! ### Get -/
/-- What k rounds have read, the highest byte first. -/
def getDown (xs : List Int) (n : Nat) (big : Bool) : Nat → Int
  | 0 => 0
  | k + 1 => getDown xs n big k * 256 + xs.getD (placeV ((n - 1 - k : Nat) : Int) n big).toNat 0
theorem getDown_to (xs : List Int) (n : Nat) (big : Bool) (k : Nat) (hk : k ≤ n) : getTo xs n big n = getDown xs n big k * 2 ^ (8 * (n - k)) + getTo xs n big (n - k) := by
  induction k with
  | zero => simp [getDown]
  | succ k ih =>
    rw [ih (by omega), show n - k = (n - (k + 1)) + 1 by omega]
    rw [getDown, getTo, pow8_succ, show n - 1 - k = n - (k + 1) by omega, Int.add_mul, Int.mul_comm (2 ^ (8 * (n - (k + 1)))) 256, ← Int.mul_assoc]
    omega
theorem getDown_full (xs : List Int) (n : Nat) (big : Bool) : getDown xs n big n = getTo xs n big n := by
  have h := getDown_to xs n big n (Nat.le_refl _)
  rw [h]; simp [getTo]
theorem getDown_lt {xs : List Int} (h : AreBytes xs) (n : Nat) (big : Bool) (k : Nat) : 0 ≤ getDown xs n big k ∧ getDown xs n big k < 2 ^ (8 * k) := by
  induction k with
  | zero => simp [getDown]
  | succ k ih =>
    have hb := h.getD (placeV ((n - 1 - k : Nat) : Int) n big).toNat
    rw [pow8_succ]
    unfold getDown
    omega


theorem get_nil (a : Option Addr) (c : Nat) (big : Bool) (w : World) :
    Calls Tryd.prog 37 #[.slice a 0 c, .bool big] w fun e w' => e = .returned (.int .u64 0) ∧ w' = w := by
  go_enter Tryd.func37, Tryd.ntmps37
  go_wp2_with fail
  refine wp_loop_rounds 1 ?_
  rw [rounds_succ]
  go_wp2_with fail
  go_ret
  exact ⟨rfl, rfl⟩
/-- Get, of whatever reads as bytes. -/
theorem get_c {v : Value} {xs : List Int} (big : Bool) (hx : AreBytes xs) (hlen : xs.length ≤ 9223372036854775807) (w : World) (hv : BytesIn w v xs) :
    Calls Tryd.prog 37 #[v, .bool big] w fun e w' => e = .returned (.int .u64 (getV xs big)) ∧ w' = w := by
  rcases hv with ⟨a, c, rfl, rfl⟩ | ⟨b, off, c, rfl, h⟩
  · exact get_nil a c big w
  · exact get_in b off c xs _ big hx rfl hlen w h

/-! ### Put -/
/-- What k rounds have put together. -/
def refPutTo (x : Int) (big : Bool) : Nat → List Int
  | 0 => []
  | k + 1 => if big then byteV x k :: refPutTo x big k else refPutTo x big k ++ [byteV x k]
theorem refPutTo_length (x : Int) (big : Bool) (k : Nat) : (refPutTo x big k).length = k := by
  induction k with
  | zero => rfl
  | succ k ih => unfold refPutTo; split <;> simp [ih]
theorem refPutTo_low (x : Int) (k : Nat) : refPutTo x false k = (List.range k).map fun i : Nat => byteV x i := by
  induction k with
  | zero => rfl
  | succ k ih => simp [refPutTo, ih, List.range_succ]
theorem refPutTo_get (x : Int) (k : Nat) (j : Nat) (hj : j < k) : (refPutTo x true k)[j]? = some (byteV x (k - 1 - j)) := by
  induction k generalizing j with
  | zero => omega
  | succ k ih =>
    cases j with
    | zero => simp [refPutTo]
    | succ j =>
      simp only [refPutTo, if_true, List.getElem?_cons_succ]
      rw [ih j (by omega)]
      congr 2
      omega
theorem refPutTo_full (x : Int) (big : Bool) (n : Nat) : refPutTo x big n = putL x n big := by
  cases big
  · rw [refPutTo_low]; simp [putL, placeV]
  · apply List.ext_getElem?
    intro j
    by_cases hj : j < n
    · rw [refPutTo_get x n j hj]
      simp [putL, placeV, hj]
    · rw [List.getElem?_eq_none (by rw [refPutTo_length]; omega), List.getElem?_eq_none (by simp [putL]; omega)]

theorem own_ge {w : World} {base : Nat} {e : TypeId} {size n : Nat} {v : Value} {xs : List Value} (h : w.ownsRow base e size v n xs) : ∀ g, v.ownBlock = some g → base ≤ g := by
  intro g hg
  rcases h.2 with ⟨rfl, _⟩ | ⟨g', cap, cur, rfl, hb, _⟩
  · simp [Value.ownBlock] at hg
  · simp [Value.ownBlock] at hg; omega
/-- A block of one cell, made just now. -/
theorem new_one (w : World) (v : Value) (t : TypeId) : ∀ (j : Nat) (u : Value), [v][j]? = some u → (w.alloc (.cells #[v] t)).cell? ((⟨w.heap.size, 0, none⟩ : Addr).add j) = some u := by
  intro j u hj
  match j, hj with
  | 0, hj =>
    simp at hj
    subst hj
    exact cell_of_one (heap_alloc_new w _)



/-! ### What a call makes -/
/-- The value v, made by the call, reads as these bytes; what was there is as it was. -/
structure NewBytes (w w' : World) (v : Value) (xs : List Int) : Prop where
  bytes : BytesIn w' v xs
  lt : ∀ g, v.ownBlock = some g → g < w'.heap.size
  below : Below w.heap.size w w'
theorem own_lt {w : World} {base : Nat} {e : TypeId} {size n : Nat} {v : Value} {xs : List Value} (h : w.ownsRow base e size v n xs) : ∀ g, v.ownBlock = some g → g < w.heap.size := by
  intro g hg
  rcases h.2 with ⟨rfl, _⟩ | ⟨g', cap, cur, rfl, _, hh, _⟩
  · simp [Value.ownBlock] at hg
  · simp [Value.ownBlock] at hg
    subst hg
    exact lt_of_block hh
theorem put_new (x s : Int) (big : Bool) (hx0 : 0 ≤ x) (hx1 : x < 18446744073709551616) (w : World) :
    Calls Tryd.prog 32 #[.int .u64 x, .int .i64 s, .bool big] w fun e w' => ∃ v, e = .returned v ∧ NewBytes w w' v (putL x (max 0 (min s 8)).toNat big) :=
  (put_c x s big hx0 hx1 w).mono fun _ _ ⟨he, ho, hb⟩ => ⟨_, he, BytesIn.of_own ho, own_lt ho, hb⟩
theorem NewBytes.alloc {w w' : World} {v : Value} {xs : List Int} (h : NewBytes w w' v xs) (o : Obj) : NewBytes w (w'.alloc o) v xs :=
  ⟨h.bytes.below ((Below.refl w'.heap.size w').alloc (Nat.le_refl _) o) h.lt, fun g hg => by have := h.lt g hg; simp; omega, h.below.alloc h.below.size o⟩
theorem NewBytes.later {w w' w2 : World} {v : Value} {xs : List Int} (h : NewBytes w w' v xs) (hb : Below w'.heap.size w' w2) : NewBytes w w2 v xs :=
  ⟨h.bytes.below hb h.lt, fun g hg => by have := h.lt g hg; have := hb.size; omega, h.below.trans (hb.mono h.below.size)⟩
end Go.Proofs.YtnafdgpkofffaaaDoor
