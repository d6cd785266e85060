/-
  Contracts of package decode: spread.
-/
import Derived.Test.YtgekmhcekkmdhaaDecS
import Derived.Deep.QuietTactic
import Derived.BigQuiet
set_option linter.unusedVariables false
set_option linter.unusedSimpArgs false
namespace Go.Proofs.Ytgekmhcekkmdhaa
open Go.RowKit

def lowN (r : Int) (n : Nat) : Nat := (r % 2 ^ n).toNat
theorem lowN_lt (r : Int) (n : Nat) : lowN r n < 2 ^ n := by
  have h1 := Int.emod_nonneg r (Int.ne_of_gt (pow_pos' n))
  have h2 := Int.emod_lt_of_pos r (pow_pos' n)
  have := cast_pow n
  unfold lowN
  omega
theorem lowN_eq (r : Int) (n : Nat) : r % 2 ^ n = (lowN r n : Int) := by
  have h1 := Int.emod_nonneg r (Int.ne_of_gt (pow_pos' n))
  unfold lowN
  omega
theorem low5 (r : Int) (h0 : -9223372036854775808 ≤ r) (h1 : r ≤ 9223372036854775807) (w : World) :
    Calls Try.prog 55 #[.int .i64 r, .int .i64 5] w fun e w' => e = .returned (.int .u64 (lowN r 5 : Nat)) ∧ Drew w w' :=
  (lowest_c r 5 h0 h1 (by decide) (by decide) w).mono fun _ _ ⟨a, b⟩ => ⟨by rw [a, ← lowN_eq]; rfl, b⟩

theorem fieldN_d (m : Nat) (hm : m < 18446744073709551616) (hi lo : Int) (h0 : 0 ≤ lo) (h1 : lo ≤ hi) (h2 : hi ≤ 63) (w : World) :
    Calls Try.prog 41 #[.int .u64 (m : Nat), .int .i64 hi, .int .i64 lo] w fun e w' => e = .returned (.int .u64 (fN m hi lo : Nat)) ∧ Drew w w' :=
  (field_c (m : Int) hi lo (by omega) (by omega) w).mono fun _ _ ⟨a, b⟩ => ⟨by rw [a, fN_field m hi lo h0 h1 h2], b⟩

theorem castmul (a l : Nat) : ((a * 2 ^ l : Nat) : Int) = (a : Int) * 2 ^ l := by simp

theorem or0 (b : Nat) (hb : b < 18446744073709551616) : bits .or .u64 0 (b : Int) = ((b : Nat) : Int) := by
  rw [show (0 : Int) = ((0 : Nat) : Int) from rfl, or64 _ _ (by omega) hb, Nat.zero_or]
theorem shp_form (c f : Int) : (((shp c f).runs ≠ [] ∧ (shp c f).runs.length < 100) ∧ (((shp c f).rd = true ∧ (shp c f).rs1 = false ∧ (shp c f).rs2 = false) ∨ ((shp c f).rd = false ∧ (shp c f).rs1 = true ∧ (shp c f).rs2 = true) ∨ ((shp c f).rd = true ∧ (shp c f).rs1 = true ∧ (shp c f).rs2 = false))) ∨
    ((shp c f).runs = [] ∧ (((shp c f).rd = true ∧ (shp c f).rs1 = true ∧ (shp c f).rs2 = true) ∨ ((shp c f).rd = false ∧ (shp c f).rs1 = true ∧ (shp c f).rs2 = true) ∨ ((shp c f).rd = false ∧ (shp c f).rs1 = false ∧ (shp c f).rs2 = false))) := by
  by_cases c1 : c = 1
  · simp [shp, c1]
  by_cases c2 : c = 2
  · simp [shp, c2]
  by_cases c3 : c = 3
  · simp [shp, c3]
  by_cases c5 : c = 5
  · simp [shp, c5]
  by_cases c7 : c = 7
  · simp [shp, c7]
  by_cases c4 : c = 4
  · simp [shp, tw, c4]
  by_cases c6 : c = 6
  · simp [shp, tw, c6]
  by_cases c8 : c = 8
  · by_cases f1 : f = 1 ∨ f = 5 ∨ f = 13
    · simp [shp, immShp, c8, f1]
    · simp [shp, immShp, tw, c8, f1]
  by_cases c12 : c = 12
  · simp [shp, tw, c12]
  by_cases c9 : c = 9
  · simp [shp, c9]
  by_cases c13 : c = 13
  · simp [shp, c13]
  by_cases c11 : c = 11
  · cases h : f == 5 <;> simp [shp, c11, h]
  · simp [shp, c1, c2, c3, c4, c5, c6, c7, c8, c9, c11, c12, c13]

set_option maxHeartbeats 1000000 in
theorem spread_tff (rs : List Run) (hok : rs.all Run.ok = true) (wide c f r1 r2 r3 : Int) (d : Bool) (m : Nat) (hm : m < 18446744073709551616) (q1 : -9223372036854775808 ≤ r1 ∧ r1 ≤ 9223372036854775807) (q2 : -9223372036854775808 ≤ r2 ∧ r2 ≤ 9223372036854775807) (q3 : -9223372036854775808 ≤ r3 ∧ r3 ≤ 9223372036854775807) (b : Nat) (w : World)
    (hb : b < w.heap.size) (hlen : rs.length < 100) (hcell : ∀ k, k < rs.length →
    w.cell? ⟨b, k * 3, none⟩ = some (.int .i64 (rs.getD k default).hi) ∧ w.cell? ⟨b, k * 3 + 1, none⟩ = some (.int .i64 (rs.getD k default).lo) ∧ w.cell? ⟨b, k * 3 + 2, none⟩ = some (.int .i64 (rs.getD k default).pl)) :
    Calls Try.prog 30 #[.agg #[.bool true, .bool false, .bool false, .slice (some ⟨b, 0, none⟩) rs.length rs.length, .int .i64 wide], .agg #[.int .i64 c, .int .i64 f, .bool d, .int .i64 r1, .int .i64 r2, .int .i64 r3, .int .u64 (m : Nat)]] w
      fun e w' => e = .returned (.int .u64 (spK m rs (lowN r1 5 * 128) rs.length : Nat)) ∧ Grew w w' := by
  have HC := Lib.hid hcell
  clear hcell
  have l1 := lowN_lt r1 5
  obtain ⟨n, hn⟩ : ∃ n, n = rs.length := ⟨_, rfl⟩
  rw [← hn] at hlen ⊢
  have HN := Lib.hid hn
  clear hn
  go_enter Try.func30, Try.ntmps30
  go_wp2_with fail
  refine (low5 r1 q1.1 q1.2 _).mono ?_
  rintro e w1 ⟨rfl, n1, rfl⟩
  go_wp2_with fail
  have h0 : bits .or .u64 0 (((lowN r1 5 : Nat) : Int) * 128) = ((lowN r1 5 * 128 : Nat) : Int) := by
    simp (disch := (repeat (first | omega | apply or64_lt))) only [mulc, or0, or64]
  have hacc : lowN r1 5 * 128 < 4294967296 := by repeat (first | omega | apply or32_lt)
  have H0 := Lib.hid h0
  clear h0
  go_loopw [5, 35] (fun x i wr => ∃ k : Nat, k ≤ n ∧ i = .int .i64 k ∧ x = .int .u64 (spK m rs (lowN r1 5 * 128) k : Nat) ∧ Grew ((w.alloc (.cells #[.bool true, .bool false, .bool false, .slice (some ⟨b, 0, none⟩) n n, .int .i64 wide] 49)).alloc (.cells #[.int .i64 c, .int .i64 f, .bool d, .int .i64 r1, .int .i64 r2, .int .i64 r3, .int .u64 (m : Nat)] 26)) wr) (fun _ i _ => n - (intOf i).toNat)
  case atStart => exact ⟨0, Nat.zero_le _, rfl, by rw [H0.out]; rfl, (by repeat (first | with_reducible exact Grew.refl _ | with_reducible refine Grew.drewN ?_ _))⟩
  case round =>
    obtain ⟨k, hk, rfl, rfl, hg⟩ := hrel
    by_cases hlt : k < n
    · have hN := HN.out
      obtain ⟨c1, c2, c3⟩ := HC.out k (by omega)
      have g0 := gcell hg
      have e1 : wr.cell? ⟨b, k * 3, none⟩ = some (.int .i64 (rs.getD k default).hi) := by rw [g0.1 _ _ (by simp; omega)]; go_simp
      have e2 : wr.cell? ⟨b, k * 3 + 1, none⟩ = some (.int .i64 (rs.getD k default).lo) := by rw [g0.1 _ _ (by simp; omega)]; go_simp
      have e3 : wr.cell? ⟨b, k * 3 + 2, none⟩ = some (.int .i64 (rs.getD k default).pl) := by rw [g0.1 _ _ (by simp; omega)]; go_simp
      have e4 : wr.cell? ⟨w.heap.size + 1, 6, none⟩ = some (.int .u64 (m : Nat)) := by rw [g0.1 _ _ (by simp)]; go_simp
      have hsz := hg.size
      simp at hsz
      have hs1 : w.heap.size + 1 < wr.heap.size := by omega
      have hs2 : ¬ w.heap.size + 1 = wr.heap.size := by omega
      obtain ⟨o1, o2, o3, o4, o5⟩ := run_at hok (k := k) (by omega)
      have hstep : spK m rs (lowN r1 5 * 128) (k + 1) = spK m rs (lowN r1 5 * 128) k ||| fN m ((rs.getD k default).pl + (rs.getD k default).hi - (rs.getD k default).lo) (rs.getD k default).pl * 2 ^ (rs.getD k default).lo.toNat := rfl
      have hkl := spK_lt m rs hok (lowN r1 5 * 128) hacc k (by omega)
      have hbl := run_lt m _ _ _ o4 (Int.le_sub_right_of_add_le (Int.add_le_add_left o2 _)) o5 o1 (by omega)
      have hor := or64 _ _ (Nat.lt_of_lt_of_le hkl (by decide)) (Nat.lt_of_lt_of_le hbl (by decide))
      have hw : IntKind.u64.wrap ((fN m ((rs.getD k default).pl + (rs.getD k default).hi - (rs.getD k default).lo) (rs.getD k default).pl : Int) * 2 ^ (rs.getD k default).lo.toNat) = ((fN m ((rs.getD k default).pl + (rs.getD k default).hi - (rs.getD k default).lo) (rs.getD k default).pl * 2 ^ (rs.getD k default).lo.toNat : Nat) : Int) := wrap_cast _ _ (Nat.lt_of_lt_of_le hbl (by decide))
      rw [← hstep] at hor
      have s1 : IntKind.i64.wrap ((rs.getD k default).pl + (rs.getD k default).hi) = (rs.getD k default).pl + (rs.getD k default).hi := IntWalk.i64_in _ (by omega)
      have s2 : IntKind.i64.wrap ((rs.getD k default).pl + (rs.getD k default).hi - (rs.getD k default).lo) = (rs.getD k default).pl + (rs.getD k default).hi - (rs.getD k default).lo := IntWalk.i64_in _ (by omega)
      clear hstep
      generalize hr : rs.getD k default = r at *
      have q1' : r.pl ≤ r.pl + r.hi - r.lo := by omega
      have q2' : r.pl + r.hi - r.lo ≤ 63 := by omega
      have S1 := Lib.hid s1
      have S2 := Lib.hid s2
      have OR := Lib.hid hor
      have WR := Lib.hid hw
      clear c1 c2 c3 g0 hN s1 s2 hor hw hr hbl hkl
      go_wp2_with fail
      have s1 := S1.out
      have s2 := S2.out
      have hor := OR.out
      have hw := WR.out
      go_quiet ((go_at_call 41; exact Calls.quiet_of (fieldN_d m hm _ _ o4 q1' q2' _)))
      clear s1 s2 hor hw
      go_wp2_with fail
      go_roundw
      case rel => exact ⟨k + 1, by omega, by go_num, by rw [← OR.out, castmul], (hg.alloc _).drewN _⟩
      case measure => simp [intOf]; omega
    · obtain rfl : k = n := by omega
      go_wp2_with fail
      go_ret
      exact ⟨rfl, (((Grew.refl w).alloc _).alloc _).trans hg⟩
set_option maxHeartbeats 1000000 in
theorem spread_ttf (rs : List Run) (hok : rs.all Run.ok = true) (wide c f r1 r2 r3 : Int) (d : Bool) (m : Nat) (hm : m < 18446744073709551616) (q1 : -9223372036854775808 ≤ r1 ∧ r1 ≤ 9223372036854775807) (q2 : -9223372036854775808 ≤ r2 ∧ r2 ≤ 9223372036854775807) (q3 : -9223372036854775808 ≤ r3 ∧ r3 ≤ 9223372036854775807) (b : Nat) (w : World)
    (hb : b < w.heap.size) (hlen : rs.length < 100) (hcell : ∀ k, k < rs.length →
    w.cell? ⟨b, k * 3, none⟩ = some (.int .i64 (rs.getD k default).hi) ∧ w.cell? ⟨b, k * 3 + 1, none⟩ = some (.int .i64 (rs.getD k default).lo) ∧ w.cell? ⟨b, k * 3 + 2, none⟩ = some (.int .i64 (rs.getD k default).pl)) :
    Calls Try.prog 30 #[.agg #[.bool true, .bool true, .bool false, .slice (some ⟨b, 0, none⟩) rs.length rs.length, .int .i64 wide], .agg #[.int .i64 c, .int .i64 f, .bool d, .int .i64 r1, .int .i64 r2, .int .i64 r3, .int .u64 (m : Nat)]] w
      fun e w' => e = .returned (.int .u64 (spK m rs (lowN r1 5 * 128 ||| lowN r2 5 * 32768) rs.length : Nat)) ∧ Grew w w' := by
  have HC := Lib.hid hcell
  clear hcell
  have l1 := lowN_lt r1 5
  have l2 := lowN_lt r2 5
  obtain ⟨n, hn⟩ : ∃ n, n = rs.length := ⟨_, rfl⟩
  rw [← hn] at hlen ⊢
  have HN := Lib.hid hn
  clear hn
  go_enter Try.func30, Try.ntmps30
  go_wp2_with fail
  refine (low5 r1 q1.1 q1.2 _).mono ?_
  rintro e w1 ⟨rfl, n1, rfl⟩
  go_wp2_with fail
  refine (low5 r2 q2.1 q2.2 _).mono ?_
  rintro e w2 ⟨rfl, n2, rfl⟩
  go_wp2_with fail
  have h0 : bits .or .u64 (bits .or .u64 0 (((lowN r1 5 : Nat) : Int) * 128)) (((lowN r2 5 : Nat) : Int) * 32768) = ((lowN r1 5 * 128 ||| lowN r2 5 * 32768 : Nat) : Int) := by
    simp (disch := (repeat (first | omega | apply or64_lt))) only [mulc, or0, or64]
  have hacc : lowN r1 5 * 128 ||| lowN r2 5 * 32768 < 4294967296 := by repeat (first | omega | apply or32_lt)
  have H0 := Lib.hid h0
  clear h0
  go_loopw [5, 35] (fun x i wr => ∃ k : Nat, k ≤ n ∧ i = .int .i64 k ∧ x = .int .u64 (spK m rs (lowN r1 5 * 128 ||| lowN r2 5 * 32768) k : Nat) ∧ Grew ((w.alloc (.cells #[.bool true, .bool true, .bool false, .slice (some ⟨b, 0, none⟩) n n, .int .i64 wide] 49)).alloc (.cells #[.int .i64 c, .int .i64 f, .bool d, .int .i64 r1, .int .i64 r2, .int .i64 r3, .int .u64 (m : Nat)] 26)) wr) (fun _ i _ => n - (intOf i).toNat)
  case atStart => exact ⟨0, Nat.zero_le _, rfl, by rw [H0.out]; rfl, (by repeat (first | with_reducible exact Grew.refl _ | with_reducible refine Grew.drewN ?_ _))⟩
  case round =>
    obtain ⟨k, hk, rfl, rfl, hg⟩ := hrel
    by_cases hlt : k < n
    · have hN := HN.out
      obtain ⟨c1, c2, c3⟩ := HC.out k (by omega)
      have g0 := gcell hg
      have e1 : wr.cell? ⟨b, k * 3, none⟩ = some (.int .i64 (rs.getD k default).hi) := by rw [g0.1 _ _ (by simp; omega)]; go_simp
      have e2 : wr.cell? ⟨b, k * 3 + 1, none⟩ = some (.int .i64 (rs.getD k default).lo) := by rw [g0.1 _ _ (by simp; omega)]; go_simp
      have e3 : wr.cell? ⟨b, k * 3 + 2, none⟩ = some (.int .i64 (rs.getD k default).pl) := by rw [g0.1 _ _ (by simp; omega)]; go_simp
      have e4 : wr.cell? ⟨w.heap.size + 1, 6, none⟩ = some (.int .u64 (m : Nat)) := by rw [g0.1 _ _ (by simp)]; go_simp
      have hsz := hg.size
      simp at hsz
      have hs1 : w.heap.size + 1 < wr.heap.size := by omega
      have hs2 : ¬ w.heap.size + 1 = wr.heap.size := by omega
      obtain ⟨o1, o2, o3, o4, o5⟩ := run_at hok (k := k) (by omega)
      have hstep : spK m rs (lowN r1 5 * 128 ||| lowN r2 5 * 32768) (k + 1) = spK m rs (lowN r1 5 * 128 ||| lowN r2 5 * 32768) k ||| fN m ((rs.getD k default).pl + (rs.getD k default).hi - (rs.getD k default).lo) (rs.getD k default).pl * 2 ^ (rs.getD k default).lo.toNat := rfl
      have hkl := spK_lt m rs hok (lowN r1 5 * 128 ||| lowN r2 5 * 32768) hacc k (by omega)
      have hbl := run_lt m _ _ _ o4 (Int.le_sub_right_of_add_le (Int.add_le_add_left o2 _)) o5 o1 (by omega)
      have hor := or64 _ _ (Nat.lt_of_lt_of_le hkl (by decide)) (Nat.lt_of_lt_of_le hbl (by decide))
      have hw : IntKind.u64.wrap ((fN m ((rs.getD k default).pl + (rs.getD k default).hi - (rs.getD k default).lo) (rs.getD k default).pl : Int) * 2 ^ (rs.getD k default).lo.toNat) = ((fN m ((rs.getD k default).pl + (rs.getD k default).hi - (rs.getD k default).lo) (rs.getD k default).pl * 2 ^ (rs.getD k default).lo.toNat : Nat) : Int) := wrap_cast _ _ (Nat.lt_of_lt_of_le hbl (by decide))
      rw [← hstep] at hor
      have s1 : IntKind.i64.wrap ((rs.getD k default).pl + (rs.getD k default).hi) = (rs.getD k default).pl + (rs.getD k default).hi := IntWalk.i64_in _ (by omega)
      have s2 : IntKind.i64.wrap ((rs.getD k default).pl + (rs.getD k default).hi - (rs.getD k default).lo) = (rs.getD k default).pl + (rs.getD k default).hi - (rs.getD k default).lo := IntWalk.i64_in _ (by omega)
      clear hstep
      generalize hr : rs.getD k default = r at *
      have q1' : r.pl ≤ r.pl + r.hi - r.lo := by omega
      have q2' : r.pl + r.hi - r.lo ≤ 63 := by omega
      have S1 := Lib.hid s1
      have S2 := Lib.hid s2
      have OR := Lib.hid hor
      have WR := Lib.hid hw
      clear c1 c2 c3 g0 hN s1 s2 hor hw hr hbl hkl
      go_wp2_with fail
      have s1 := S1.out
      have s2 := S2.out
      have hor := OR.out
      have hw := WR.out
      go_quiet ((go_at_call 41; exact Calls.quiet_of (fieldN_d m hm _ _ o4 q1' q2' _)))
      clear s1 s2 hor hw
      go_wp2_with fail
      go_roundw
      case rel => exact ⟨k + 1, by omega, by go_num, by rw [← OR.out, castmul], (hg.alloc _).drewN _⟩
      case measure => simp [intOf]; omega
    · obtain rfl : k = n := by omega
      go_wp2_with fail
      go_ret
      exact ⟨rfl, (((Grew.refl w).alloc _).alloc _).trans hg⟩
set_option maxHeartbeats 1000000 in
theorem spread_ftt (rs : List Run) (hok : rs.all Run.ok = true) (wide c f r1 r2 r3 : Int) (d : Bool) (m : Nat) (hm : m < 18446744073709551616) (q1 : -9223372036854775808 ≤ r1 ∧ r1 ≤ 9223372036854775807) (q2 : -9223372036854775808 ≤ r2 ∧ r2 ≤ 9223372036854775807) (q3 : -9223372036854775808 ≤ r3 ∧ r3 ≤ 9223372036854775807) (b : Nat) (w : World)
    (hb : b < w.heap.size) (hlen : rs.length < 100) (hcell : ∀ k, k < rs.length →
    w.cell? ⟨b, k * 3, none⟩ = some (.int .i64 (rs.getD k default).hi) ∧ w.cell? ⟨b, k * 3 + 1, none⟩ = some (.int .i64 (rs.getD k default).lo) ∧ w.cell? ⟨b, k * 3 + 2, none⟩ = some (.int .i64 (rs.getD k default).pl)) :
    Calls Try.prog 30 #[.agg #[.bool false, .bool true, .bool true, .slice (some ⟨b, 0, none⟩) rs.length rs.length, .int .i64 wide], .agg #[.int .i64 c, .int .i64 f, .bool d, .int .i64 r1, .int .i64 r2, .int .i64 r3, .int .u64 (m : Nat)]] w
      fun e w' => e = .returned (.int .u64 (spK m rs (lowN r2 5 * 32768 ||| lowN r3 5 * 1048576) rs.length : Nat)) ∧ Grew w w' := by
  have HC := Lib.hid hcell
  clear hcell
  have l2 := lowN_lt r2 5
  have l3 := lowN_lt r3 5
  obtain ⟨n, hn⟩ : ∃ n, n = rs.length := ⟨_, rfl⟩
  rw [← hn] at hlen ⊢
  have HN := Lib.hid hn
  clear hn
  go_enter Try.func30, Try.ntmps30
  go_wp2_with fail
  refine (low5 r2 q2.1 q2.2 _).mono ?_
  rintro e w1 ⟨rfl, n1, rfl⟩
  go_wp2_with fail
  refine (low5 r3 q3.1 q3.2 _).mono ?_
  rintro e w2 ⟨rfl, n2, rfl⟩
  go_wp2_with fail
  have h0 : bits .or .u64 (bits .or .u64 0 (((lowN r2 5 : Nat) : Int) * 32768)) (((lowN r3 5 : Nat) : Int) * 1048576) = ((lowN r2 5 * 32768 ||| lowN r3 5 * 1048576 : Nat) : Int) := by
    simp (disch := (repeat (first | omega | apply or64_lt))) only [mulc, or0, or64]
  have hacc : lowN r2 5 * 32768 ||| lowN r3 5 * 1048576 < 4294967296 := by repeat (first | omega | apply or32_lt)
  have H0 := Lib.hid h0
  clear h0
  go_loopw [5, 35] (fun x i wr => ∃ k : Nat, k ≤ n ∧ i = .int .i64 k ∧ x = .int .u64 (spK m rs (lowN r2 5 * 32768 ||| lowN r3 5 * 1048576) k : Nat) ∧ Grew ((w.alloc (.cells #[.bool false, .bool true, .bool true, .slice (some ⟨b, 0, none⟩) n n, .int .i64 wide] 49)).alloc (.cells #[.int .i64 c, .int .i64 f, .bool d, .int .i64 r1, .int .i64 r2, .int .i64 r3, .int .u64 (m : Nat)] 26)) wr) (fun _ i _ => n - (intOf i).toNat)
  case atStart => exact ⟨0, Nat.zero_le _, rfl, by rw [H0.out]; rfl, (by repeat (first | with_reducible exact Grew.refl _ | with_reducible refine Grew.drewN ?_ _))⟩
  case round =>
    obtain ⟨k, hk, rfl, rfl, hg⟩ := hrel
    by_cases hlt : k < n
    · have hN := HN.out
      obtain ⟨c1, c2, c3⟩ := HC.out k (by omega)
      have g0 := gcell hg
      have e1 : wr.cell? ⟨b, k * 3, none⟩ = some (.int .i64 (rs.getD k default).hi) := by rw [g0.1 _ _ (by simp; omega)]; go_simp
      have e2 : wr.cell? ⟨b, k * 3 + 1, none⟩ = some (.int .i64 (rs.getD k default).lo) := by rw [g0.1 _ _ (by simp; omega)]; go_simp
      have e3 : wr.cell? ⟨b, k * 3 + 2, none⟩ = some (.int .i64 (rs.getD k default).pl) := by rw [g0.1 _ _ (by simp; omega)]; go_simp
      have e4 : wr.cell? ⟨w.heap.size + 1, 6, none⟩ = some (.int .u64 (m : Nat)) := by rw [g0.1 _ _ (by simp)]; go_simp
      have hsz := hg.size
      simp at hsz
      have hs1 : w.heap.size + 1 < wr.heap.size := by omega
      have hs2 : ¬ w.heap.size + 1 = wr.heap.size := by omega
      obtain ⟨o1, o2, o3, o4, o5⟩ := run_at hok (k := k) (by omega)
      have hstep : spK m rs (lowN r2 5 * 32768 ||| lowN r3 5 * 1048576) (k + 1) = spK m rs (lowN r2 5 * 32768 ||| lowN r3 5 * 1048576) k ||| fN m ((rs.getD k default).pl + (rs.getD k default).hi - (rs.getD k default).lo) (rs.getD k default).pl * 2 ^ (rs.getD k default).lo.toNat := rfl
      have hkl := spK_lt m rs hok (lowN r2 5 * 32768 ||| lowN r3 5 * 1048576) hacc k (by omega)
      have hbl := run_lt m _ _ _ o4 (Int.le_sub_right_of_add_le (Int.add_le_add_left o2 _)) o5 o1 (by omega)
      have hor := or64 _ _ (Nat.lt_of_lt_of_le hkl (by decide)) (Nat.lt_of_lt_of_le hbl (by decide))
      have hw : IntKind.u64.wrap ((fN m ((rs.getD k default).pl + (rs.getD k default).hi - (rs.getD k default).lo) (rs.getD k default).pl : Int) * 2 ^ (rs.getD k default).lo.toNat) = ((fN m ((rs.getD k default).pl + (rs.getD k default).hi - (rs.getD k default).lo) (rs.getD k default).pl * 2 ^ (rs.getD k default).lo.toNat : Nat) : Int) := wrap_cast _ _ (Nat.lt_of_lt_of_le hbl (by decide))
      rw [← hstep] at hor
      have s1 : IntKind.i64.wrap ((rs.getD k default).pl + (rs.getD k default).hi) = (rs.getD k default).pl + (rs.getD k default).hi := IntWalk.i64_in _ (by omega)
      have s2 : IntKind.i64.wrap ((rs.getD k default).pl + (rs.getD k default).hi - (rs.getD k default).lo) = (rs.getD k default).pl + (rs.getD k default).hi - (rs.getD k default).lo := IntWalk.i64_in _ (by omega)
      clear hstep
      generalize hr : rs.getD k default = r at *
      have q1' : r.pl ≤ r.pl + r.hi - r.lo := by omega
      have q2' : r.pl + r.hi - r.lo ≤ 63 := by omega
      have S1 := Lib.hid s1
      have S2 := Lib.hid s2
      have OR := Lib.hid hor
      have WR := Lib.hid hw
      clear c1 c2 c3 g0 hN s1 s2 hor hw hr hbl hkl
      go_wp2_with fail
      have s1 := S1.out
      have s2 := S2.out
      have hor := OR.out
      have hw := WR.out
      go_quiet ((go_at_call 41; exact Calls.quiet_of (fieldN_d m hm _ _ o4 q1' q2' _)))
      clear s1 s2 hor hw
      go_wp2_with fail
      go_roundw
      case rel => exact ⟨k + 1, by omega, by go_num, by rw [← OR.out, castmul], (hg.alloc _).drewN _⟩
      case measure => simp [intOf]; omega
    · obtain rfl : k = n := by omega
      go_wp2_with fail
      go_ret
      exact ⟨rfl, (((Grew.refl w).alloc _).alloc _).trans hg⟩
set_option maxHeartbeats 1000000 in
theorem spread_ttt_nil (wide c f r1 r2 r3 : Int) (d : Bool) (m : Nat) (q1 : -9223372036854775808 ≤ r1 ∧ r1 ≤ 9223372036854775807) (q2 : -9223372036854775808 ≤ r2 ∧ r2 ≤ 9223372036854775807) (q3 : -9223372036854775808 ≤ r3 ∧ r3 ≤ 9223372036854775807) (w : World) :
    Calls Try.prog 30 #[.agg #[.bool true, .bool true, .bool true, .slice none 0 0, .int .i64 wide], .agg #[.int .i64 c, .int .i64 f, .bool d, .int .i64 r1, .int .i64 r2, .int .i64 r3, .int .u64 (m : Nat)]] w fun e w' => e = .returned (.int .u64 ((lowN r1 5 * 128 ||| lowN r2 5 * 32768 ||| lowN r3 5 * 1048576 : Nat) : Int)) ∧ Grew w w' := by
  have l1 := lowN_lt r1 5
  have l2 := lowN_lt r2 5
  have l3 := lowN_lt r3 5
  go_enter Try.func30, Try.ntmps30
  go_wp2_with fail
  refine (low5 r1 q1.1 q1.2 _).mono ?_
  rintro e w1 ⟨rfl, n1, rfl⟩
  go_wp2_with fail
  refine (low5 r2 q2.1 q2.2 _).mono ?_
  rintro e w2 ⟨rfl, n2, rfl⟩
  go_wp2_with fail
  refine (low5 r3 q3.1 q3.2 _).mono ?_
  rintro e w3 ⟨rfl, n3, rfl⟩
  go_wp2_with fail
  have h0 : bits .or .u64 (bits .or .u64 (bits .or .u64 0 (((lowN r1 5 : Nat) : Int) * 128)) (((lowN r2 5 : Nat) : Int) * 32768)) (((lowN r3 5 : Nat) : Int) * 1048576) = ((lowN r1 5 * 128 ||| lowN r2 5 * 32768 ||| lowN r3 5 * 1048576 : Nat) : Int) := by
    simp (disch := (repeat (first | omega | apply or64_lt))) only [mulc, or0, or64]
  have hacc : lowN r1 5 * 128 ||| lowN r2 5 * 32768 ||| lowN r3 5 * 1048576 < 4294967296 := by repeat (first | omega | apply or32_lt)
  have H0 := Lib.hid h0
  clear h0
  go_rounds 1
  go_ret
  exact ⟨ret_u64 H0.out, (by repeat (first | with_reducible exact Grew.refl _ | with_reducible refine Grew.drewN ?_ _ | with_reducible refine Grew.alloc ?_ _))⟩
set_option maxHeartbeats 1000000 in
theorem spread_ftt_nil (wide c f r1 r2 r3 : Int) (d : Bool) (m : Nat) (q1 : -9223372036854775808 ≤ r1 ∧ r1 ≤ 9223372036854775807) (q2 : -9223372036854775808 ≤ r2 ∧ r2 ≤ 9223372036854775807) (q3 : -9223372036854775808 ≤ r3 ∧ r3 ≤ 9223372036854775807) (w : World) :
    Calls Try.prog 30 #[.agg #[.bool false, .bool true, .bool true, .slice none 0 0, .int .i64 wide], .agg #[.int .i64 c, .int .i64 f, .bool d, .int .i64 r1, .int .i64 r2, .int .i64 r3, .int .u64 (m : Nat)]] w fun e w' => e = .returned (.int .u64 ((lowN r2 5 * 32768 ||| lowN r3 5 * 1048576 : Nat) : Int)) ∧ Grew w w' := by
  have l2 := lowN_lt r2 5
  have l3 := lowN_lt r3 5
  go_enter Try.func30, Try.ntmps30
  go_wp2_with fail
  refine (low5 r2 q2.1 q2.2 _).mono ?_
  rintro e w1 ⟨rfl, n1, rfl⟩
  go_wp2_with fail
  refine (low5 r3 q3.1 q3.2 _).mono ?_
  rintro e w2 ⟨rfl, n2, rfl⟩
  go_wp2_with fail
  have h0 : bits .or .u64 (bits .or .u64 0 (((lowN r2 5 : Nat) : Int) * 32768)) (((lowN r3 5 : Nat) : Int) * 1048576) = ((lowN r2 5 * 32768 ||| lowN r3 5 * 1048576 : Nat) : Int) := by
    simp (disch := (repeat (first | omega | apply or64_lt))) only [mulc, or0, or64]
  have hacc : lowN r2 5 * 32768 ||| lowN r3 5 * 1048576 < 4294967296 := by repeat (first | omega | apply or32_lt)
  have H0 := Lib.hid h0
  clear h0
  go_rounds 1
  go_ret
  exact ⟨ret_u64 H0.out, (by repeat (first | with_reducible exact Grew.refl _ | with_reducible refine Grew.drewN ?_ _ | with_reducible refine Grew.alloc ?_ _))⟩
set_option maxHeartbeats 1000000 in
theorem spread_fff_nil (wide c f r1 r2 r3 : Int) (d : Bool) (m : Nat) (q1 : -9223372036854775808 ≤ r1 ∧ r1 ≤ 9223372036854775807) (q2 : -9223372036854775808 ≤ r2 ∧ r2 ≤ 9223372036854775807) (q3 : -9223372036854775808 ≤ r3 ∧ r3 ≤ 9223372036854775807) (w : World) :
    Calls Try.prog 30 #[.agg #[.bool false, .bool false, .bool false, .slice none 0 0, .int .i64 wide], .agg #[.int .i64 c, .int .i64 f, .bool d, .int .i64 r1, .int .i64 r2, .int .i64 r3, .int .u64 (m : Nat)]] w fun e w' => e = .returned (.int .u64 ((0 : Nat) : Int)) ∧ Grew w w' := by
  go_enter Try.func30, Try.ntmps30
  go_wp2_with fail
  go_rounds 1
  go_ret
  exact ⟨rfl, (by repeat (first | with_reducible exact Grew.refl _ | with_reducible refine Grew.drewN ?_ _ | with_reducible refine Grew.alloc ?_ _))⟩
/-- What spread answers. -/
def accN (b1 b2 b3 : Bool) (r1 r2 r3 : Int) : Nat := (if b1 then lowN r1 5 * 128 else 0) ||| (if b2 then lowN r2 5 * 32768 else 0) ||| (if b3 then lowN r3 5 * 1048576 else 0)
def sprN (s : Shp) (r1 r2 r3 : Int) (m : Nat) : Nat := spK m s.runs (accN s.rd s.rs1 s.rs2 r1 r2 r3) s.runs.length
theorem spread_c (c f c' f' r1 r2 r3 : Int) (d : Bool) (m : Nat) (hm : m < 18446744073709551616) (q1 : -9223372036854775808 ≤ r1 ∧ r1 ≤ 9223372036854775807) (q2 : -9223372036854775808 ≤ r2 ∧ r2 ≤ 9223372036854775807) (q3 : -9223372036854775808 ≤ r3 ∧ r3 ≤ 9223372036854775807) (a : Option Addr) (n B : Nat) (w : World) (hv : RunsIn B w (.slice a n n) (shp c f).runs) :
    Calls Try.prog 30 #[sV (shp c f) (.slice a n n), .agg #[.int .i64 c', .int .i64 f', .bool d, .int .i64 r1, .int .i64 r2, .int .i64 r3, .int .u64 (m : Nat)]] w
      fun e w' => e = .returned (.int .u64 (sprN (shp c f) r1 r2 r3 m : Nat)) ∧ Grew w w' := by
  have hok := shp_ok c f
  have hf := shp_form c f
  generalize shp c f = s at *
  obtain ⟨rd, s1, s2, rs, wide⟩ := s
  rcases hf with ⟨hl, hp⟩ | ⟨hl, hp⟩
  · rcases hv with ⟨h0, _⟩ | ⟨_, b, hv, _, hb, hcell⟩
    · simp only at hl h0; rw [h0] at hl; simp at hl
    · simp only [Value.slice.injEq] at hv
      obtain ⟨rfl, rfl, _⟩ := hv
      rcases hp with ⟨h1, h2, h3⟩ | ⟨h1, h2, h3⟩ | ⟨h1, h2, h3⟩ <;> simp only at h1 h2 h3 hl hok hcell <;> subst h1 h2 h3
      · have e : sprN ⟨true, false, false, rs, wide⟩ r1 r2 r3 m = spK m rs (lowN r1 5 * 128) rs.length := by simp [sprN, accN]
        rw [e]
        exact spread_tff rs hok wide c' f' r1 r2 r3 d m hm q1 q2 q3 b w hb hl.2 hcell
      · have e : sprN ⟨false, true, true, rs, wide⟩ r1 r2 r3 m = spK m rs (lowN r2 5 * 32768 ||| lowN r3 5 * 1048576) rs.length := by simp [sprN, accN]
        rw [e]
        exact spread_ftt rs hok wide c' f' r1 r2 r3 d m hm q1 q2 q3 b w hb hl.2 hcell
      · have e : sprN ⟨true, true, false, rs, wide⟩ r1 r2 r3 m = spK m rs (lowN r1 5 * 128 ||| lowN r2 5 * 32768) rs.length := by simp [sprN, accN]
        rw [e]
        exact spread_ttf rs hok wide c' f' r1 r2 r3 d m hm q1 q2 q3 b w hb hl.2 hcell
  · simp only at hl
    subst hl
    rcases hv with ⟨_, hv⟩ | ⟨h0, _⟩
    · simp only [Value.slice.injEq] at hv
      obtain ⟨rfl, rfl, _⟩ := hv
      rcases hp with ⟨h1, h2, h3⟩ | ⟨h1, h2, h3⟩ | ⟨h1, h2, h3⟩ <;> simp only at h1 h2 h3 <;> subst h1 h2 h3
      · have e : sprN ⟨true, true, true, [], wide⟩ r1 r2 r3 m = lowN r1 5 * 128 ||| lowN r2 5 * 32768 ||| lowN r3 5 * 1048576 := by simp [sprN, accN, spK]
        rw [e]
        exact spread_ttt_nil wide c' f' r1 r2 r3 d m q1 q2 q3 w
      · have e : sprN ⟨false, true, true, [], wide⟩ r1 r2 r3 m = lowN r2 5 * 32768 ||| lowN r3 5 * 1048576 := by simp [sprN, accN, spK]
        rw [e]
        exact spread_ftt_nil wide c' f' r1 r2 r3 d m q1 q2 q3 w
      · have e : sprN ⟨false, false, false, [], wide⟩ r1 r2 r3 m = 0 := by simp [sprN, accN, spK]
        rw [e]
        exact spread_fff_nil wide c' f' r1 r2 r3 d m q1 q2 q3 w
    · exact (h0 rfl).elim
end Go.Proofs.Ytgekmhcekkmdhaa
