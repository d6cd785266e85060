/-
  The document's order of interrupts (drawbridgeref06): first.
-/
import Derived.Test.YtbkbbcfhmjodlaaDoorTrapA
set_option linter.unusedVariables false
set_option linter.unusedSimpArgs false
namespace Go.Proofs.YtbkbbcfhmjodlaaDoor
open Go.RowKit

/-- The order of interrupts. -/
def ordL : List Nat := [11, 3, 7, 9, 1, 5]
def ordA (k : Nat) : Nat := ordL.getD k 0
theorem ord_lt (k : Nat) : ordA k < 64 := by
  match k with
  | 0 | 1 | 2 | 3 | 4 | 5 => decide
  | k + 6 => simp [ordA, ordL]
def ordC : Array Value := #[.int .i64 11, .int .i64 3, .int .i64 7, .int .i64 9, .int .i64 1, .int .i64 5]
theorem ord_cell (k : Nat) (hk : k < 6) : ordC[k]? = some (.int .i64 (ordA k : Nat)) := by
  obtain rfl | rfl | rfl | rfl | rfl | rfl : k = 0 ∨ k = 1 ∨ k = 2 ∨ k = 3 ∨ k = 4 ∨ k = 5 := by omega
  all_goals rfl

set_option maxHeartbeats 1000000 in
theorem first_yes (x : Nat) (hx : x < 2 ^ 64) (p : Nat) (hp : p < 6) (hlt : ∀ k, k < p → x.testBit (ordA k) = false) (hb : x.testBit (ordA p) = true) {W w : World} (hg : Grew W w) :
    Calls Tryd.prog 30 #[.int .u64 (x : Nat)] w fun e w' => e = .returned (.tuple #[.int .i64 (ordA p : Nat), .bool true]) ∧ Grew W w' := by
  have HX := Lib.hid hx
  have HP := Lib.hid hp
  have HL := Lib.hid hlt
  have HB := Lib.hid hb
  clear hx hp hlt hb
  go_enter Tryd.func30, Tryd.ntmps30
  go_wp2
  have kb := Blk.new w ordC 3 w.heap.size rfl
  have g1 := hg.alloc (.cells ordC 3)
  change (Code.loop _).wp _ _ _ (w.alloc (.cells ordC 3))
  generalize w.alloc (.cells ordC 3) = w1 at *
  go_loop [5] (fun i => ∃ k : Nat, k ≤ p ∧ i = .int .i64 k) (fun i => p - (intOf i).toNat)
  case atStart => exact ⟨0, Nat.zero_le _, rfl⟩
  case round =>
    obtain ⟨k, hk, rfl⟩ := hrel
    have hp := HP.out
    have hk6 : k < 6 := by omega
    have hc : w1.cell? ⟨w.heap.size, k, none⟩ = some (.int .i64 (ordA k : Nat)) := by rw [kb.cell]; exact ord_cell k hk6
    by_cases hlt : k < p
    · have hne : (((bitN x (ordA k) : Nat) : Int) == 1) = false := by
        rw [bit_bool, HL.out k hlt]; rfl
      clear hp
      go_wp2_with (go_at_call 26; refine (bit_c x (ordA k) HX.out (ord_lt k) _).mono ?_; rintro e w2 ⟨rfl, h2⟩; obtain rfl := h2.symm)
      go_round
      case rel => exact ⟨k + 1, by omega, by go_num⟩
      case measure => simp [intOf]; omega
    · obtain rfl : k = p := by omega
      have hne : (((bitN x (ordA k) : Nat) : Int) == 1) = true := by
        rw [bit_bool, HB.out]; rfl
      clear hp hlt
      go_wp2_with (go_at_call 26; refine (bit_c x (ordA k) HX.out (ord_lt k) _).mono ?_; rintro e w2 ⟨rfl, h2⟩; obtain rfl := h2.symm)
      go_ret2
      exact ⟨rfl, g1⟩

set_option maxHeartbeats 1000000 in
theorem first_no (x : Nat) (hx : x < 2 ^ 64) (hlt : ∀ k, k < 6 → x.testBit (ordA k) = false) {W w : World} (hg : Grew W w) :
    Calls Tryd.prog 30 #[.int .u64 (x : Nat)] w fun e w' => e = .returned (.tuple #[.int .i64 0, .bool false]) ∧ Grew W w' := by
  have HX := Lib.hid hx
  have HL := Lib.hid hlt
  clear hx hlt
  go_enter Tryd.func30, Tryd.ntmps30
  go_wp2
  have kb := Blk.new w ordC 3 w.heap.size rfl
  have g1 := hg.alloc (.cells ordC 3)
  change (Code.loop _).wp _ _ _ (w.alloc (.cells ordC 3))
  generalize w.alloc (.cells ordC 3) = w1 at *
  go_loop [5] (fun i => ∃ k : Nat, k ≤ 6 ∧ i = .int .i64 k) (fun i => 6 - (intOf i).toNat)
  case atStart => exact ⟨0, Nat.zero_le _, rfl⟩
  case round =>
    obtain ⟨k, hk, rfl⟩ := hrel
    by_cases hlt : k < 6
    · have hc : w1.cell? ⟨w.heap.size, k, none⟩ = some (.int .i64 (ordA k : Nat)) := by rw [kb.cell]; exact ord_cell k hlt
      have hne : (((bitN x (ordA k) : Nat) : Int) == 1) = false := by
        rw [bit_bool, HL.out k hlt]; rfl
      go_wp2_with (go_at_call 26; refine (bit_c x (ordA k) HX.out (ord_lt k) _).mono ?_; rintro e w2 ⟨rfl, h2⟩; obtain rfl := h2.symm)
      go_round
      case rel => exact ⟨k + 1, by omega, by go_num⟩
      case measure => simp [intOf]; omega
    · obtain rfl : k = 6 := by omega
      go_wp2
      go_ret2
      exact ⟨rfl, g1⟩
/-- What comes first: by its place in the order; 6: none. -/
def firN (x : Nat) : Nat := (List.range 6).findIdx fun k => x.testBit (ordA k)
def firB (x : Nat) : Bool := decide (firN x < 6)
def firI (x : Nat) : Int := if firN x < 6 then (ordA (firN x) : Nat) else 0
theorem fir_before (x : Nat) {k : Nat} (hk : k < firN x) (h6 : k < 6) : x.testBit (ordA k) = false := by
  have := List.not_of_lt_findIdx (xs := List.range 6) (p := fun k => x.testBit (ordA k)) hk
  simpa using this
theorem fir_at (x : Nat) (h : firN x < 6) : x.testBit (ordA (firN x)) = true := by
  have := List.findIdx_getElem (xs := List.range 6) (p := fun k => x.testBit (ordA k)) (w := by simpa [firN] using h)
  simpa [firN] using this
theorem first_c (x : Nat) (hx : x < 2 ^ 64) {W w : World} (hg : Grew W w) :
    Calls Tryd.prog 30 #[.int .u64 (x : Nat)] w fun e w' => e = .returned (.tuple #[.int .i64 (firI x), .bool (firB x)]) ∧ Grew W w' := by
  unfold firI firB
  by_cases h : firN x < 6
  · rw [if_pos h, decide_eq_true h]
    exact first_yes x hx _ h (fun k hk => fir_before x hk (by omega)) (fir_at x h) hg
  · rw [if_neg h, decide_eq_false h]
    exact first_no x hx (fun k hk => fir_before x (by omega) hk) hg
end Go.Proofs.YtbkbbcfhmjodlaaDoor
