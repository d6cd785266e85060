/-
  The statement that written bytes are read as they were, either way round. For every x, size, order. Conditions: none.
-/
import Derived.Test.YtchekiiaellpbaaRows
import Derived.Test.YtchekiiaellpbaaBitsH
import Derived.Test.YtchekiiaellpbaaLaw
import Derived.Deep.QuietTactic
import Derived.BigQuiet
import Derived.Deep.DeepCutAuto
namespace Go.Proofs.Ytchekiiaellpbaa.bitsBack
open Go.ChangeShapes Go.WideShapes Go.ChangeAt Go.RowKit

theorem putL_length (x : Int) (n : Nat) (big : Bool) : (putL x n big).length = n := by simp [putL]
theorem byteV_lt (x : Int) (i : Nat) : 0 ≤ byteV x i ∧ byteV x i < 256 := by unfold byteV; omega
theorem putL_bytes (x : Int) (n : Nat) (big : Bool) : AreBytes (putL x n big) := by
  intro y hy
  obtain ⟨i, _, rfl⟩ := List.mem_map.1 hy
  exact byteV_lt _ _
theorem putL_get (x : Int) (n : Nat) (big : Bool) (j : Nat) (hj : j < n) : (putL x n big)[j]? = some (byteV x (placeV j n big).toNat) := by simp [putL, hj]
theorem place_place (n k : Nat) (big : Bool) (hk : k < n) : (placeV ((placeV k n big).toNat : Nat) n big).toNat = k ∧ (placeV k n big).toNat < n := by
  cases big <;> simp [placeV] <;> omega
theorem place_not (n k : Nat) (big : Bool) (hk : k < n) : (placeV ((n - 1 - k : Nat) : Int) n (!big)).toNat = (placeV k n big).toNat := by
  cases big <;> simp [placeV] <;> omega
theorem emod_step (x : Int) (k : Nat) : x % 2 ^ (8 * (k + 1)) = x % 2 ^ (8 * k) + byteV x k * 2 ^ (8 * k) := by
  rw [pow8_succ]
  unfold byteV
  have hp := pow_pos' (8 * k)
  generalize (2 : Int) ^ (8 * k) = m at *
  have h1 := Int.mul_ediv_add_emod x m
  have h2 := Int.mul_ediv_add_emod (x / m) 256
  have h3 := Int.emod_nonneg x (Int.ne_of_gt hp)
  have h4 := Int.emod_lt_of_pos x hp
  generalize x % m = r at *
  generalize x / m = q at *
  have hq : m * q = m * 256 * (q / 256) + q % 256 * m := by
    conv => lhs; rw [← h2]
    rw [Int.mul_add, Int.mul_assoc, Int.mul_comm (q % 256) m]
  have e : x = (r + q % 256 * m) + m * 256 * (q / 256) := by omega
  rw [e, Int.add_mul_emod_self_left]
  have h5 : 0 ≤ q % 256 * m := Int.mul_nonneg (by omega) (Int.le_of_lt hp)
  have h6 : (q % 256 + 1) * m ≤ 256 * m := Int.mul_le_mul_of_nonneg_right (by omega) (Int.le_of_lt hp)
  rw [Int.add_mul] at h6
  exact Int.emod_eq_of_lt (by omega) (by rw [Int.mul_comm m 256]; omega)
theorem getTo_put (x : Int) (n : Nat) (big : Bool) (k : Nat) (hk : k ≤ n) : getTo (putL x n big) n big k = x % 2 ^ (8 * k) := by
  induction k with
  | zero => simp [getTo, Int.emod_one]
  | succ k ih =>
    obtain ⟨h1, h2⟩ := place_place n k big (by omega)
    rw [getTo, ih (by omega), List.getD_eq_getElem?_getD, putL_get x n big _ h2, h1, emod_step]
    rfl
theorem getV_put (x : Int) (n : Nat) (big : Bool) (hn : n ≤ 8) : getV (putL x n big) big = x % 2 ^ (8 * n) := by
  unfold getV
  rw [putL_length, show min n 8 = n by omega]
  exact getTo_put x n big n (Nat.le_refl _)

set_option maxHeartbeats 1000000 in
theorem walk_small (x : Int) (hx : 0 ≤ x ∧ x < 18446744073709551616) (n : Nat) (hn : n ≤ 8) (big : Bool) (w : World) :
    Calls Try.prog 5 #[.int .u64 x, .int .i64 n, .bool big] w fun e w' => e = .returned (.bool true) ∧ Below w.heap.size w w' := by
  obtain ⟨B, hB⟩ : ∃ B, B = w.heap.size := ⟨_, rfl⟩
  go_enter Try.func5, Try.ntmps5
  go_wp2_with fail
  refine (put_in x n n big hx.1 hx.2 (by omega) hn _).mono ?_
  rintro e w1 ⟨rfl, ho1, hb1⟩
  rw [← hB] at ho1 hb1 ⊢
  have HB := Lib.hid hB
  have H1 := Lib.hid ho1
  have HB1 := Lib.hid hb1
  obtain ⟨C, hC⟩ : ∃ C, C = w1.heap.size := ⟨_, rfl⟩
  have hBC : B < C := by rw [hC]; exact own_lt ho1 B rfl
  clear ho1 hb1 hB
  obtain ⟨want, hwant⟩ : ∃ want, want = x % 2 ^ (8 * n) := ⟨_, rfl⟩
  have HWANT := Lib.hid hwant
  clear hwant
  go_upto_if 32 with fail
  go_cut [8] (fun s8 wx => s8 = .int .u64 want ∧ wx = w1)
  case first =>
    by_cases h8 : n < 8
    · have hw1 : IntKind.u64.wrap (2 ^ (8 * n)) = 2 ^ (8 * n) := by
        have := pow_le_63 (m := 8 * n) (by omega)
        exact IntWalk.u64_in _ (by omega)
      have hp0 := pow_pos' (8 * n)
      have hne : ¬ (2 : Int) ^ (8 * n) = 0 := by omega
      go_wp2_with fail
      all_goals (go_meet; exact ⟨by rw [HWANT.out], rfl⟩)
    · have h88 : n = 8 := by omega
      go_wp2_with fail
      all_goals (go_meet; exact ⟨by rw [HWANT.out, h88]; congr 1; omega, rfl⟩)
  case rest =>
    obtain ⟨rfl, rfl⟩ := hcut
    go_wp2_with fail
    refine (put_in x n n (!big) hx.1 hx.2 (by omega) hn _).mono ?_
    rintro e w2 ⟨rfl, ho2, hb2⟩
    rw [← hC] at ho2 hb2 ⊢
    have HC := Lib.hid hC
    have H2 := Lib.hid ho2
    have HB2 := Lib.hid hb2
    clear ho2 hb2 hC
    go_wp2_with fail
    go_loopw [10] (fun i wr => ∃ k m : Nat, k ≤ n ∧ i = .int .i64 k ∧ wr = w2.drewN m) (fun i _ => n - (intOf i).toNat)
    case atStart => exact ⟨0, 0, Nat.zero_le _, rfl, rfl⟩
    case round =>
      obtain ⟨k, m, hk, rfl, rfl⟩ := hrel
      by_cases hlt : k < n
      · obtain ⟨q, hq⟩ : ∃ q, q = byteV x (placeV k n big).toNat := ⟨_, rfl⟩
        have c1 : w2.cell? ⟨B, k, none⟩ = some (.int .u8 q) := by
          rw [HB2.out.cell (p := ⟨B, k, none⟩) hBC, H1.out.cellAt k (by omega), List.getElem?_map, putL_get x n big k hlt, hq]; rfl
        have c2 : w2.cell? ⟨C, n - 1 - k, none⟩ = some (.int .u8 q) := by
          rw [H2.out.cellAt (n - 1 - k) (by omega), List.getElem?_map, putL_get x n (!big) (n - 1 - k) (by omega), place_not n k big hlt, hq]; rfl
        have m1 : (n : Int) - 1 - k = ((n - 1 - k : Nat) : Int) := by omega
        have m2 : IntKind.i64.wrap ((n : Int) - 1) = (n : Int) - 1 := IntWalk.i64_in _ (by omega)
        have m3 : IntKind.i64.wrap ((n : Int) - 1 - k) = ((n - 1 - k : Nat) : Int) := by rw [m1]; exact IntWalk.i64_in _ (by omega)
        clear hq
        go_wp2_with fail
        go_quiet (fail)
        go_wp2_with fail
        go_roundw
        case rel => exact ⟨k + 1, _, by omega, by go_num, rfl⟩
        case measure => simp [intOf]; omega
      · obtain rfl : k = n := by omega
        have hv : getV (putL x k big) big = want := by rw [getV_put x k big hn, HWANT.out]
        have hrb : BytesIn w2 (.slice (some ⟨B, 0, none⟩) k k) (putL x k big) := (BytesIn.of_own H1.out).below HB2.out (fun g hg => by simp [Value.ownBlock] at hg; omega)
        have hrd : BytesIn (w2.drewN m) (.slice (some ⟨B, 0, none⟩) k k) (putL x k big) := hrb
        have HRD := Lib.hid hrd
        clear hrb hrd
        go_wp2_with fail
        refine (get_c big (putL_bytes x k big) (by rw [putL_length]; omega) _ HRD.out).mono ?_
        rintro e w3 ⟨rfl, h3⟩
        obtain rfl := h3.symm
        rw [hv]
        go_wp2_with fail
        refine (heads_c _).mono ?_
        rintro e w3 ⟨rfl, hbl⟩
        go_wp2_with fail
        go_ret
        have h0 := HB1.out
        rw [HB.out] at h0
        have h1 : Below w.heap.size w w2 := h0.trans (HB2.out.mono (by rw [HC.out]; exact h0.size))
        exact ⟨rfl, (below_drewN h1 m).trans (hbl.mono h1.size)⟩

set_option maxHeartbeats 1000000 in
theorem walk_else (x : Int) (hx : 0 ≤ x ∧ x < 18446744073709551616) (s : Int) (hs : s < 0 ∨ 8 < s) (hw : -9223372036854775808 ≤ s ∧ s ≤ 9223372036854775807) (big : Bool) (w : World) :
    Calls Try.prog 5 #[.int .u64 x, .int .i64 s, .bool big] w fun e w' => e = .returned (.bool true) ∧ Below w.heap.size w w' := by
  rcases hs with hs | hs
  · go_enter Try.func5, Try.ntmps5
    go_wp2_with fail
    refine (put_in x 0 s big hx.1 hx.2 (by omega) (by omega) _).mono ?_
    rintro e w1 ⟨rfl, _, hb1⟩
    have HB1 := Lib.hid hb1
    clear hb1
    go_wp2_with (go_at_call 9; refine (heads_c _).mono ?_; rintro e w3 ⟨rfl, hbl⟩)
    go_ret
    exact ⟨rfl, HB1.out.trans (hbl.mono HB1.out.size)⟩
  · go_enter Try.func5, Try.ntmps5
    go_wp2_with fail
    refine (put_in x 8 s big hx.1 hx.2 (by omega) (by omega) _).mono ?_
    rintro e w1 ⟨rfl, _, hb1⟩
    have HB1 := Lib.hid hb1
    clear hb1
    go_wp2_with (go_at_call 9; refine (heads_c _).mono ?_; rintro e w3 ⟨rfl, hbl⟩)
    go_ret
    exact ⟨rfl, HB1.out.trans (hbl.mono HB1.out.size)⟩

theorem walk (x : Int) (hx : 0 ≤ x ∧ x < 18446744073709551616) (s : Int) (hs : -9223372036854775808 ≤ s ∧ s ≤ 9223372036854775807) (big : Bool) (w : World) :
    Calls Try.prog 5 #[.int .u64 x, .int .i64 s, .bool big] w fun e w' => e = .returned (.bool true) ∧ Below w.heap.size w w' := by
  by_cases h : 0 ≤ s ∧ s ≤ 8
  · obtain ⟨n, rfl⟩ := Int.eq_ofNat_of_zero_le h.1
    exact walk_small x hx n (by omega) big w
  · exact walk_else x hx s (by omega) hs big w
set_option maxRecDepth 100000 in
theorem lifted (os : Os) (started : os.Started) (H : Type) (enc : TypeId × Value → H) :
    ReturnsInHanded {} Try.checked os 5 .any (Rows.bitsBackSpec.pre6 enc Try.prog Try.f5 Rows.bitsBackRow.domain false) (Rows.bitsBackSpec.post enc Try.prog Try.f5 false true false false) := by
  refine returnsInHanded_of_change (C := Try.checked) own started (by kernel_rfl) Try.func5
    (ChangeSpec.witness6 (enc := enc) (C := Try.checked) false ⟨#[], #[.int .u64 0, .int .i64 0, .bool false], []⟩ 8 (by kernel_rfl) (by kernel_rfl) (by kernel_rfl) (by kernel_rfl)) ?_
  intro W base args ds gs before hval0 hW _ _
  have hval : ∀ (j : Nat) t v, Try.f5.params[j]? = some t → args[j]? = some v → Value.okWide Try.prog W .any base t v := hval0
  have hW' := hW
  obtain ⟨p, q, hA0, hV, rfl, hfz, hnd⟩ := hW
  have hA : DataW.TrodAll enc Try.prog W 0 (fun _ => true) true Try.f5.params.toList args.toList ds p := hA0
  rw [Try.params5] at hA hval
  obtain ⟨v0, vs0, d0, ds0, p0, q0, hargs, rfl, rfl, h0, r'0⟩ := trodAll_cons hA
  obtain ⟨v1, vs1, d1, ds1, p1, q1, rfl, rfl, rfl, h1, r'1⟩ := trodAll_cons r'0
  obtain ⟨v2, vs2, d2, ds2, p2, q2, rfl, rfl, rfl, h2, r'2⟩ := trodAll_cons r'1
  obtain ⟨rfl, rfl, rfl⟩ := trodAll_nil r'2
  obtain rfl : args = #[v0, v1, v2] := by cases args; simp_all
  obtain ⟨a0, rfl, rfl, rfl, w0⟩ := open_int Try.underlying22 (hval 0 22 v0 rfl rfl) h0
  obtain ⟨a1, rfl, rfl, rfl, w1⟩ := open_int Try.underlying3 (hval 1 3 v1 rfl rfl) h1
  obtain ⟨a2, rfl, rfl, rfl⟩ := open_bool Try.underlying4 (hval 2 4 v2 rfl rfl) h2
  refine (walk a0 (wf_u64 w0) a1 (wf_i64 w1) a2 W).mono fun e W' ⟨he, hb⟩ => ?_
  subst he
  exact ⟨_, rfl, law_post hW' rfl rfl laid (by kernel_rfl) rfl Try.underlying4 hb⟩

theorem over : Rows.bitsBackRow.holds Try.pinned (OpenSpec.ofChange Rows.bitsBackSpec) :=
  OpenClaim.holds_of_wide 5 Try.f5 rfl rfl rfl rfl rfl rfl rfl ⟨rfl, rfl, rfl, rfl, rfl⟩ rfl rfl rfl rfl rfl (by kernel_rfl) Try.func5 (by kernel_rfl)
    (of_decide_eq_true (by kernel_rfl)) (by unfold Func.isWrapper; first | (rw [if_pos (by decide +kernel)]; kernel_rfl) | (rw [if_neg (by decide +kernel)]; exact ⟨rfl, rfl⟩))
    (fun os started H enc _ => lifted os started H enc)

theorem proved : Rows.BitsBackSaid := over
#print axioms proved
end Go.Proofs.Ytchekiiaellpbaa.bitsBack
