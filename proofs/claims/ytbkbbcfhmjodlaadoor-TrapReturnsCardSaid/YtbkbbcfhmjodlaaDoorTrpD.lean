/-
  Package trap: the order of interrupts, as a package variable; first, delegated.
-/
import Derived.Test.YtbkbbcfhmjodlaaDoorTrpC
set_option linter.unusedVariables false
set_option linter.unusedSimpArgs false
namespace Go.Proofs.YtbkbbcfhmjodlaaDoor
open Go.RowKit

/-- What the order of interrupts is in a world. -/
structure Ord (W : World) : Prop where
  z : 0 < W.heap.size
  c : ∀ k, k < 6 → W.cell? ⟨0, k, none⟩ = some (.int .i64 (ordA k : Nat))
theorem Ord.grew {W w : World} (s : Ord W) (g : Grew W w) : Ord w where
  z := by have := g.size; have := s.z; omega
  c := fun k hk => by rw [(gcell g).1 0 k s.z]; exact s.c k hk
theorem ord_at (k : Nat) (hk : k < 6) (w : World) : (Instr.index 52 (.agg #[.int .i64 11, .int .i64 3, .int .i64 7, .int .i64 9, .int .i64 1, .int .i64 5]) (.int .i64 (k : Nat))).run Tryd.prog w = .ok (.int .i64 (ordA k : Nat)) w := by
  obtain rfl | rfl | rfl | rfl | rfl | rfl : k = 0 ∨ k = 1 ∨ k = 2 ∨ k = 3 ∨ k = 4 ∨ k = 5 := by omega
  all_goals kernel_rfl
theorem and_one (x n : Nat) (hx : x < 2 ^ 64) : bits .and .u64 ((x : Int) / 2 ^ n) 1 = ((bitN x n : Nat) : Int) := by
  have h : x / 2 ^ n < 2 ^ 64 := Nat.lt_of_le_of_lt (Nat.div_le_self _ _) hx
  have e : (x : Int) / 2 ^ n = ((x / 2 ^ n : Nat) : Int) := by simp
  rw [e, l_and _ h 1 (by decide) 1 rfl, show (x / 2 ^ n) &&& 1 = x / 2 ^ n % 2 from Nat.and_two_pow_sub_one_eq_mod _ 1]
  rfl

set_option maxHeartbeats 1000000 in
theorem firstp_yes (x : Nat) (hx : x < 2 ^ 64) (p : Nat) (hp : p < 6) (hlt : ∀ k, k < p → x.testBit (ordA k) = false) (hb : x.testBit (ordA p) = true) {W w : World} (so : Ord W) (hg : Grew W w) :
    Calls Tryd.prog 20 #[.int .u64 (x : Nat)] w fun e w' => e = .returned (.tuple #[.int .i64 (ordA p : Nat), .bool true]) ∧ Grew W w' := by
  have HX := Lib.hid hx
  have HP := Lib.hid hp
  have HL := Lib.hid hlt
  have HB := Lib.hid hb
  have sw := so.grew hg
  have o0 : w.cell? ⟨0, 0, none⟩ = some (.int .i64 11) := sw.c 0 (by decide)
  have o1 : w.cell? ⟨0, 1, none⟩ = some (.int .i64 3) := sw.c 1 (by decide)
  have o2 : w.cell? ⟨0, 2, none⟩ = some (.int .i64 7) := sw.c 2 (by decide)
  have o3 : w.cell? ⟨0, 3, none⟩ = some (.int .i64 9) := sw.c 3 (by decide)
  have o4 : w.cell? ⟨0, 4, none⟩ = some (.int .i64 1) := sw.c 4 (by decide)
  have o5 : w.cell? ⟨0, 5, none⟩ = some (.int .i64 5) := sw.c 5 (by decide)
  have x1 : (x : Int) < 18446744073709551616 := by omega
  clear hx hp hlt hb
  go_enter Tryd.func20, Tryd.ntmps20
  go_wp2
  go_loop [7] (fun i => ∃ k : Nat, k ≤ p ∧ i = .int .i64 k) (fun i => p - (intOf i).toNat)
  case atStart => exact ⟨0, Nat.zero_le _, rfl⟩
  case round =>
    obtain ⟨k, hk, rfl⟩ := hrel
    have hp := HP.out
    have hk6 : k < 6 := by omega
    have ha := ord_lt k
    have E := and_one x (ordA k) HX.out
    have hrow := ord_at k hk6
    by_cases hlt : k < p
    · have hne : (((bitN x (ordA k) : Nat) : Int) == 1) = false := by
        rw [bit_bool, HL.out k hlt]; rfl
      clear hp
      obtain ⟨n, hn⟩ : ∃ n, ordA k = n := ⟨_, rfl⟩
      rw [hn] at hne ha E hrow
      try rw [hn]
      clear hn
      have n1 : (n : Int) < 64 := by omega
      have hx1 : (k : Int) < 6 := by omega
      clear ha
      go_wp2
      go_round
      case rel => exact ⟨k + 1, by omega, by go_num⟩
      case measure => simp [intOf]; omega
    · obtain rfl : k = p := by omega
      have hne : (((bitN x (ordA k) : Nat) : Int) == 1) = true := by
        rw [bit_bool, HB.out]; rfl
      clear hp hlt
      obtain ⟨n, hn⟩ : ∃ n, ordA k = n := ⟨_, rfl⟩
      rw [hn] at hne ha E hrow
      have HN := Lib.hid hn
      clear hn
      have n1 : (n : Int) < 64 := by omega
      have hx1 : (k : Int) < 6 := by omega
      clear ha
      go_wp2
      go_ret2
      exact ⟨by rw [HN.out]; rfl, hg⟩
set_option maxHeartbeats 1000000 in
theorem firstp_no (x : Nat) (hx : x < 2 ^ 64) (hlt : ∀ k, k < 6 → x.testBit (ordA k) = false) {W w : World} (so : Ord W) (hg : Grew W w) :
    Calls Tryd.prog 20 #[.int .u64 (x : Nat)] w fun e w' => e = .returned (.tuple #[.int .i64 0, .bool false]) ∧ Grew W w' := by
  have HX := Lib.hid hx
  have HL := Lib.hid hlt
  have sw := so.grew hg
  have o0 : w.cell? ⟨0, 0, none⟩ = some (.int .i64 11) := sw.c 0 (by decide)
  have o1 : w.cell? ⟨0, 1, none⟩ = some (.int .i64 3) := sw.c 1 (by decide)
  have o2 : w.cell? ⟨0, 2, none⟩ = some (.int .i64 7) := sw.c 2 (by decide)
  have o3 : w.cell? ⟨0, 3, none⟩ = some (.int .i64 9) := sw.c 3 (by decide)
  have o4 : w.cell? ⟨0, 4, none⟩ = some (.int .i64 1) := sw.c 4 (by decide)
  have o5 : w.cell? ⟨0, 5, none⟩ = some (.int .i64 5) := sw.c 5 (by decide)
  have x1 : (x : Int) < 18446744073709551616 := by omega
  clear hx hlt
  go_enter Tryd.func20, Tryd.ntmps20
  go_wp2
  go_loop [7] (fun i => ∃ k : Nat, k ≤ 6 ∧ i = .int .i64 k) (fun i => 6 - (intOf i).toNat)
  case atStart => exact ⟨0, Nat.zero_le _, rfl⟩
  case round =>
    obtain ⟨k, hk, rfl⟩ := hrel
    by_cases hlt : k < 6
    · have ha := ord_lt k
      have E := and_one x (ordA k) HX.out
      have hrow := ord_at k hlt
      have hne : (((bitN x (ordA k) : Nat) : Int) == 1) = false := by
        rw [bit_bool, HL.out k hlt]; rfl
      obtain ⟨n, hn⟩ : ∃ n, ordA k = n := ⟨_, rfl⟩
      rw [hn] at hne ha E hrow
      try rw [hn]
      clear hn
      have n1 : (n : Int) < 64 := by omega
      have hx1 : (k : Int) < 6 := by omega
      clear ha
      go_wp2
      go_round
      case rel => exact ⟨k + 1, by omega, by go_num⟩
      case measure => simp [intOf]; omega
    · obtain rfl : k = 6 := by omega
      go_wp2
      go_ret2
      exact ⟨rfl, hg⟩
theorem firstp_c (x : Nat) (hx : x < 2 ^ 64) {W w : World} (so : Ord W) (hg : Grew W w) :
    Calls Tryd.prog 20 #[.int .u64 (x : Nat)] w fun e w' => e = .returned (.tuple #[.int .i64 (firI x), .bool (firB x)]) ∧ Grew W w' := by
  unfold firI firB
  by_cases h : firN x < 6
  · rw [if_pos h, decide_eq_true h]
    exact firstp_yes x hx _ h (fun k hk => fir_before x hk (by omega)) (fir_at x h) so hg
  · rw [if_neg h, decide_eq_false h]
    exact firstp_no x hx (fun k hk => fir_before x (by omega) hk) so hg
end Go.Proofs.YtbkbbcfhmjodlaaDoor
