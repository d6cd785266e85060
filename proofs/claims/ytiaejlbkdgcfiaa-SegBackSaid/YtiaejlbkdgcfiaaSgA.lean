/-
  Package seg: small functions: numbers and their bytes, an option's size, Less, Len.
-/
import Derived.Test.YtiaejlbkdgcfiaaSgN
import Derived.Test.YtiaejlbkdgcfiaaPutB
set_option maxRecDepth 4000
set_option linter.unusedVariables false
set_option linter.unusedSimpArgs false
namespace Go.Proofs.Ytiaejlbkdgcfiaa
open Go.RowKit

theorem putL_two (x : Int) : putL x 2 true = [x / 256 % 256, x % 256] := by
  simp [putL, placeV, byteV, List.range_succ]
theorem putL_two_wrap (x : Int) : putL (x % 18446744073709551616) 2 true = putL x 2 true := by
  rw [putL_two, putL_two, show x % 18446744073709551616 / 256 % 256 = x / 256 % 256 by omega, show x % 18446744073709551616 % 256 = x % 256 by omega]
theorem sgPair_c (x : Int) (w : World) :
    Calls Try.prog 39 #[.int .i64 x] w fun e w' => ∃ a c, e = .returned (.slice a 2 c) ∧ Row w' w.heap.size (.slice a 2 c) (putL x 2 true) ∧ Buf w' (.slice a 2 c) (putL x 2 true) ∧ Grew w w' := by
  rw [← putL_two_wrap]
  have hw : IntKind.u64.wrap x = x % 18446744073709551616 := by rw [wrap_u64]
  have hy : 0 ≤ x % 18446744073709551616 ∧ x % 18446744073709551616 < 18446744073709551616 := by omega
  generalize x % 18446744073709551616 = y at *
  go_enter Try.func39, Try.ntmps39
  go_wp2_with fail
  try rw [hw]
  refine (putB_c y _ 2 true (by rfl) (by omega) hy.1 hy.2 _).mono ?_
  rintro e w1 ⟨u1, rfl, r1, b1, g1⟩
  obtain ⟨a, c, rfl, _, _⟩ := b1.shape
  rw [putB_len] at b1 r1 ⊢
  have B1 := Lib.hid b1
  have R1 := Lib.hid r1
  clear b1 r1 hw
  go_wp2_with fail
  go_ret
  exact ⟨_, _, rfl, R1.out, B1.out, g1⟩
theorem sgLong_c (x : Int) (h : 0 ≤ x ∧ x < 4294967296) (w : World) :
    Calls Try.prog 40 #[.int .u32 x] w fun e w' => ∃ a c, e = .returned (.slice a 4 c) ∧ Buf w' (.slice a 4 c) (putL x 4 true) ∧ Grew w w' := by
  have hw : IntKind.u64.wrap x = x := IntWalk.u64_in x (by omega)
  go_enter Try.func40, Try.ntmps40
  go_wp2_with fail
  try rw [hw]
  refine (putB_c x _ 4 true (by rfl) (by omega) (by omega) (by omega) _).mono ?_
  rintro e w1 ⟨u1, rfl, r1, b1, g1⟩
  obtain ⟨a, c, rfl, _, _⟩ := b1.shape
  rw [putB_len] at b1 ⊢
  have B1 := Lib.hid b1
  clear b1 r1
  go_wp2_with fail
  go_ret
  exact ⟨_, _, rfl, B1.out, g1⟩
theorem sgPairAt_c {v : Value} {xs : List Int} (K : Int) (k k2 : Nat) (hK : K = k) (hk2 : k2 = k + 2) (hk : k2 ≤ xs.length) (w : World) (hb : Buf w v xs) :
    Calls Try.prog 50 #[v, .int .i64 K] w fun e w' => e = .returned (.int .i64 (getV (cutL xs k k2) true)) ∧ w' = w := by
  subst hK hk2
  have hlen := hb.len
  obtain ⟨a, c, rfl, _, _⟩ := hb.shape
  obtain ⟨a', c', hcut, x1, hrun, x3, x4⟩ := hb.run_cut (lo := k) (hi := k + 2) (by omega) (by omega)
  clear x1 x3 x4
  unfold maxLen at hlen
  have hl2 : (cutL xs k (k + 2)).length = 2 := by rw [cutL_length (by omega) hk]; omega
  have e1 : wrap64 ((k : Int) + 2) = ((k + 2 : Nat) : Int) := by rw [IntWalk.wrap64_in _ (by omega)]; omega
  have e2 : IntKind.i64.wrap ((k : Int) + 2) = ((k + 2 : Nat) : Int) := by rw [IntWalk.i64_in _ (by omega)]; omega
  have hr : ∀ w', (Instr.sliceAt 23 (.slice a xs.length c) (some (.int .i64 k)) (some (.int .i64 ((k + 2 : Nat) : Int))) none).run Try.prog w' = .ok (.slice a' 2 c') w' := fun w' => by have := hrun .i64 .i64 w'; rwa [show k + 2 - k = 2 by omega] at this
  rw [show k + 2 - k = 2 by omega] at hcut
  have hg := getG_lt hcut.ok true hl2 (by omega)
  have hw : IntKind.i64.wrap (getV (cutL xs k (k + 2)) true) = getV (cutL xs k (k + 2)) true := IntWalk.i64_in _ (by omega)
  have HG := Lib.hid (fun w' (g : Grew w w') => get_c true (hcut.grew g).ok (by omega) w' (hcut.grew g).bytes)
  clear hrun hg hl2 hcut hb hk hlen
  generalize getV (cutL xs k (k + 2)) true = z at *
  generalize ((k + 2 : Nat) : Int) = k2 at *
  go_enter Try.func50, Try.ntmps50
  go_wp2_with fail
  refine (HG.out _ (Grew.refl _)).mono ?_
  rintro e w1 ⟨rfl, h1⟩
  obtain rfl := h1.symm
  go_wp2_with fail
  go_ret
  exact ⟨by first | rfl | rw [hw], rfl⟩
theorem sgLongAt_c {v : Value} {xs : List Int} (K : Int) (k k2 : Nat) (hK : K = k) (hk2 : k2 = k + 4) (hk : k2 ≤ xs.length) (w : World) (hb : Buf w v xs) :
    Calls Try.prog 51 #[v, .int .i64 K] w fun e w' => e = .returned (.int .u32 (getV (cutL xs k k2) true)) ∧ w' = w := by
  subst hK hk2
  have hlen := hb.len
  obtain ⟨a, c, rfl, _, _⟩ := hb.shape
  obtain ⟨a', c', hcut, x1, hrun, x3, x4⟩ := hb.run_cut (lo := k) (hi := k + 4) (by omega) (by omega)
  clear x1 x3 x4
  unfold maxLen at hlen
  have hl2 : (cutL xs k (k + 4)).length = 4 := by rw [cutL_length (by omega) hk]; omega
  have e1 : wrap64 ((k : Int) + 4) = ((k + 4 : Nat) : Int) := by rw [IntWalk.wrap64_in _ (by omega)]; omega
  have e2 : IntKind.i64.wrap ((k : Int) + 4) = ((k + 4 : Nat) : Int) := by rw [IntWalk.i64_in _ (by omega)]; omega
  have hr : ∀ w', (Instr.sliceAt 23 (.slice a xs.length c) (some (.int .i64 k)) (some (.int .i64 ((k + 4 : Nat) : Int))) none).run Try.prog w' = .ok (.slice a' 4 c') w' := fun w' => by have := hrun .i64 .i64 w'; rwa [show k + 4 - k = 4 by omega] at this
  rw [show k + 4 - k = 4 by omega] at hcut
  have hg := getG_lt hcut.ok true hl2 (by omega)
  have hw : IntKind.u32.wrap (getV (cutL xs k (k + 4)) true) = getV (cutL xs k (k + 4)) true := IntWalk.u32_in _ (by omega)
  have HG := Lib.hid (fun w' (g : Grew w w') => get_c true (hcut.grew g).ok (by omega) w' (hcut.grew g).bytes)
  clear hrun hg hl2 hcut hb hk hlen
  generalize getV (cutL xs k (k + 4)) true = z at *
  generalize ((k + 4 : Nat) : Int) = k2 at *
  go_enter Try.func51, Try.ntmps51
  go_wp2_with fail
  refine (HG.out _ (Grew.refl _)).mono ?_
  rintro e w1 ⟨rfl, h1⟩
  obtain rfl := h1.symm
  go_wp2_with fail
  go_ret
  exact ⟨by first | rfl | rw [hw], rfl⟩
theorem sgTold_c {v : Value} {xs : List Int} (h : 13 ≤ xs.length) (w : World) (hb : Buf w v xs) :
    Calls Try.prog 47 #[v] w fun e w' => e = .returned (.int .i64 (hoSG xs : Nat)) ∧ w' = w := by
  have hz := hb.ok.getD 12
  have hlen := hb.len
  unfold maxLen at hlen
  obtain ⟨a, c, rfl, _, ha⟩ := hb.shape
  obtain ⟨bk, off, rfl, hat⟩ := ha (by rintro rfl; simp at h)
  have x0 := hat 12 (by omega)
  have hM : xs.getD 12 0 / 16 * 4 = ((hoSG xs : Nat) : Int) := by unfold hoSG; omega
  have EW : wrap64 (xs.getD 12 0 / 16 * 4) = ((hoSG xs : Nat) : Int) := by rw [IntWalk.wrap64_in _ (by omega)]; exact hM
  have hl : (12 : Int) < (xs.length : Int) := by omega
  have HM := Lib.hid hM
  clear hat ha hb hM
  generalize hoSG xs = N at *
  generalize xs.getD 12 0 = y at *
  generalize xs.length = n at *
  have eu : y / 16 % 256 = y / 16 := by omega
  go_enter Try.func47, Try.ntmps47
  go_wp2_with fail
  go_ret
  exact ⟨by first | rfl | (rw [EW]) | (rw [← HM.out]; rfl), rfl⟩
/-- How many bytes the first option has; 0 if it is none. -/
def oszV (ys : List Int) : Int := if ys.getD 0 0 = 0 ∨ ys.getD 0 0 = 1 then 1 else if ys.length ≤ 1 ∨ ys.getD 1 0 < 2 ∨ (ys.length : Int) < ys.getD 1 0 then 0 else ys.getD 1 0
theorem osz_0 {v : Value} {ys : List Int} (h : ys ≠ []) (h0 : (ys.getD 0 0 == 0) = true) (w : World) (hb : Buf w v ys) :
    Calls Try.prog 56 #[v] w fun e w' => e = .returned (.int .i64 1) ∧ w' = w := by
  have hz0 := hb.ok.getD 0
  have hz1 := hb.ok.getD 1
  have hlen := hb.len
  unfold maxLen at hlen
  have hp : 0 < ys.length := List.length_pos_iff.2 h
  obtain ⟨a, c, rfl, _, ha⟩ := hb.shape
  obtain ⟨bk, off, rfl, hat⟩ := ha h
  have x0 := hat 0 hp
  rw [Nat.add_zero] at x0
  have hp' : (0 : Int) < (ys.length : Int) := by omega
  clear hat ha hb h
  generalize ys.getD 0 0 = y0 at *
  generalize ys.getD 1 0 = y1 at *
  generalize ys.length = n at *
  go_enter Try.func56, Try.ntmps56
  go_wp2_with fail
  go_ret
  exact ⟨by first | rfl | skip, rfl⟩
theorem osz_1 {v : Value} {ys : List Int} (h : ys ≠ []) (h0 : (ys.getD 0 0 == 0) = false) (h1 : (ys.getD 0 0 == 1) = true) (w : World) (hb : Buf w v ys) :
    Calls Try.prog 56 #[v] w fun e w' => e = .returned (.int .i64 1) ∧ w' = w := by
  have hz0 := hb.ok.getD 0
  have hz1 := hb.ok.getD 1
  have hlen := hb.len
  unfold maxLen at hlen
  have hp : 0 < ys.length := List.length_pos_iff.2 h
  obtain ⟨a, c, rfl, _, ha⟩ := hb.shape
  obtain ⟨bk, off, rfl, hat⟩ := ha h
  have x0 := hat 0 hp
  rw [Nat.add_zero] at x0
  have hp' : (0 : Int) < (ys.length : Int) := by omega
  clear hat ha hb h
  generalize ys.getD 0 0 = y0 at *
  generalize ys.getD 1 0 = y1 at *
  generalize ys.length = n at *
  go_enter Try.func56, Try.ntmps56
  go_wp2_with fail
  go_ret
  exact ⟨by first | rfl | skip, rfl⟩
theorem osz_2 {v : Value} {ys : List Int} (h : ys ≠ []) (h0 : (ys.getD 0 0 == 0) = false) (h1 : (ys.getD 0 0 == 1) = false) (h2 : (ys.length : Int) < 2) (w : World) (hb : Buf w v ys) :
    Calls Try.prog 56 #[v] w fun e w' => e = .returned (.int .i64 0) ∧ w' = w := by
  have hz0 := hb.ok.getD 0
  have hz1 := hb.ok.getD 1
  have hlen := hb.len
  unfold maxLen at hlen
  have hp : 0 < ys.length := List.length_pos_iff.2 h
  obtain ⟨a, c, rfl, _, ha⟩ := hb.shape
  obtain ⟨bk, off, rfl, hat⟩ := ha h
  have x0 := hat 0 hp
  rw [Nat.add_zero] at x0
  have hp' : (0 : Int) < (ys.length : Int) := by omega
  clear hat ha hb h
  generalize ys.getD 0 0 = y0 at *
  generalize ys.getD 1 0 = y1 at *
  generalize ys.length = n at *
  go_enter Try.func56, Try.ntmps56
  go_wp2_with fail
  go_ret
  exact ⟨by first | rfl | skip, rfl⟩
theorem osz_3 {v : Value} {ys : List Int} (h : ys ≠ []) (h0 : (ys.getD 0 0 == 0) = false) (h1 : (ys.getD 0 0 == 1) = false) (h2 : ¬ (ys.length : Int) < 2) (h3 : ys.getD 1 0 < 2) (w : World) (hb : Buf w v ys) :
    Calls Try.prog 56 #[v] w fun e w' => e = .returned (.int .i64 0) ∧ w' = w := by
  have hz0 := hb.ok.getD 0
  have hz1 := hb.ok.getD 1
  have hlen := hb.len
  unfold maxLen at hlen
  have hp : 0 < ys.length := List.length_pos_iff.2 h
  obtain ⟨a, c, rfl, _, ha⟩ := hb.shape
  obtain ⟨bk, off, rfl, hat⟩ := ha h
  have x0 := hat 0 hp
  rw [Nat.add_zero] at x0
  have x1 := hat 1 (by omega)
  have hl1 : (1 : Int) < (ys.length : Int) := by omega
  have ew : IntKind.i64.wrap (ys.getD 1 0) = ys.getD 1 0 := IntWalk.i64_in _ (by omega)
  have hp' : (0 : Int) < (ys.length : Int) := by omega
  clear hat ha hb h
  generalize ys.getD 0 0 = y0 at *
  generalize ys.getD 1 0 = y1 at *
  generalize ys.length = n at *
  go_enter Try.func56, Try.ntmps56
  go_wp2_with fail
  go_ret
  exact ⟨by first | rfl | (rw [ew]), rfl⟩
theorem osz_4 {v : Value} {ys : List Int} (h : ys ≠ []) (h0 : (ys.getD 0 0 == 0) = false) (h1 : (ys.getD 0 0 == 1) = false) (h2 : ¬ (ys.length : Int) < 2) (h3 : ¬ ys.getD 1 0 < 2) (h4 : (ys.length : Int) < ys.getD 1 0) (w : World) (hb : Buf w v ys) :
    Calls Try.prog 56 #[v] w fun e w' => e = .returned (.int .i64 0) ∧ w' = w := by
  have hz0 := hb.ok.getD 0
  have hz1 := hb.ok.getD 1
  have hlen := hb.len
  unfold maxLen at hlen
  have hp : 0 < ys.length := List.length_pos_iff.2 h
  obtain ⟨a, c, rfl, _, ha⟩ := hb.shape
  obtain ⟨bk, off, rfl, hat⟩ := ha h
  have x0 := hat 0 hp
  rw [Nat.add_zero] at x0
  have x1 := hat 1 (by omega)
  have hl1 : (1 : Int) < (ys.length : Int) := by omega
  have ew : IntKind.i64.wrap (ys.getD 1 0) = ys.getD 1 0 := IntWalk.i64_in _ (by omega)
  have hp' : (0 : Int) < (ys.length : Int) := by omega
  clear hat ha hb h
  generalize ys.getD 0 0 = y0 at *
  generalize ys.getD 1 0 = y1 at *
  generalize ys.length = n at *
  go_enter Try.func56, Try.ntmps56
  go_wp2_with fail
  go_ret
  exact ⟨by first | rfl | (rw [ew]), rfl⟩
theorem osz_5 {v : Value} {ys : List Int} (h : ys ≠ []) (h0 : (ys.getD 0 0 == 0) = false) (h1 : (ys.getD 0 0 == 1) = false) (h2 : ¬ (ys.length : Int) < 2) (h3 : ¬ ys.getD 1 0 < 2) (h4 : ¬ (ys.length : Int) < ys.getD 1 0) (w : World) (hb : Buf w v ys) :
    Calls Try.prog 56 #[v] w fun e w' => e = .returned (.int .i64 (ys.getD 1 0)) ∧ w' = w := by
  have hz0 := hb.ok.getD 0
  have hz1 := hb.ok.getD 1
  have hlen := hb.len
  unfold maxLen at hlen
  have hp : 0 < ys.length := List.length_pos_iff.2 h
  obtain ⟨a, c, rfl, _, ha⟩ := hb.shape
  obtain ⟨bk, off, rfl, hat⟩ := ha h
  have x0 := hat 0 hp
  rw [Nat.add_zero] at x0
  have x1 := hat 1 (by omega)
  have hl1 : (1 : Int) < (ys.length : Int) := by omega
  have ew : IntKind.i64.wrap (ys.getD 1 0) = ys.getD 1 0 := IntWalk.i64_in _ (by omega)
  have hp' : (0 : Int) < (ys.length : Int) := by omega
  clear hat ha hb h
  generalize ys.getD 0 0 = y0 at *
  generalize ys.getD 1 0 = y1 at *
  generalize ys.length = n at *
  go_enter Try.func56, Try.ntmps56
  go_wp2_with fail
  go_ret
  exact ⟨by first | rfl | (rw [ew]), rfl⟩
theorem osz_c {v : Value} {ys : List Int} (h : ys ≠ []) (w : World) (hb : Buf w v ys) :
    Calls Try.prog 56 #[v] w fun e w' => e = .returned (.int .i64 (oszV ys)) ∧ w' = w := by
  have hp : 0 < ys.length := List.length_pos_iff.2 h
  unfold oszV
  cases h0 : (ys.getD 0 0 == 0)
  · cases h1 : (ys.getD 0 0 == 1)
    · rw [if_neg (by rw [beq_eq_false_iff_ne] at h0 h1; omega)]
      by_cases h2 : (ys.length : Int) < 2
      · rw [if_pos (by omega)]; exact osz_2 h h0 h1 h2 w hb
      · by_cases h3 : ys.getD 1 0 < 2
        · rw [if_pos (by omega)]; exact osz_3 h h0 h1 h2 h3 w hb
        · by_cases h4 : (ys.length : Int) < ys.getD 1 0
          · rw [if_pos (by omega)]; exact osz_4 h h0 h1 h2 h3 h4 w hb
          · rw [if_neg (by omega)]; exact osz_5 h h0 h1 h2 h3 h4 w hb
    · rw [if_pos (.inr (by simpa using h1))]; exact osz_1 h h0 h1 w hb
  · rw [if_pos (.inl (by simpa using h0))]; exact osz_0 h h0 w hb
theorem mssOp_c (m : Int) (hm : intI m) (w : World) :
    Calls Try.prog 41 #[.int .i64 m] w fun e w' => ∃ a n c, e = .returned (.slice a n c) ∧ Buf w' (.slice a n c) (if m = 0 then [] else [2, 4] ++ putL m 2 true) ∧ Grew w w' := by
  unfold intI at hm
  cases h : (m == 0)
  · rw [if_neg (by simpa using h)]
    go_enter Try.func41, Try.ntmps41
    go_upto_region 3 with fail
    go_wp2_with (first
      | (go_at_call 39; refine (sgPair_c m _).mono ?_; rintro e w2 ⟨a2, c2, rfl, hr2, hb2, g2⟩; have HB2 := Lib.hid hb2; clear hr2 hb2)
      | (refine wpList_append_b (W := w) rfl (.tmp 5) (.tmp 7) rfl (((Grew.refl w).alloc _).trans g2) ((Row.lit w w.heap.size (Nat.le_refl _) #[.int .u8 2, .int .u8 4] [2, 4] rfl (by unfold maxLen; simp) _ rfl 2 rfl).grew g2) HB2.out (by rfl) (by rfl) (by simp [putB_len]) ?_; intro v4 w4 R4 g4 y4; clear y4))
    go_ret
    have hq := R4.out.buf (AreBytes.append (two_ok 2 4 (by omega) (by omega)) (putB_ok _ _ _))
    obtain ⟨a, c, rfl, _, _⟩ := hq.shape
    exact ⟨_, _, _, rfl, hq, g4⟩
  · rw [if_pos (by simpa using h)]
    go_enter Try.func41, Try.ntmps41
    go_wp2_with fail
    go_ret
    exact ⟨_, _, _, rfl, Buf.nil _, Grew.refl _⟩
theorem less19_c : ∀ (a b : Int), 0 ≤ a ∧ a < 4294967296 → 0 ≤ b ∧ b < 4294967296 → ∀ (w : World), Calls Try.prog 17 #[.int .u32 a, .int .u32 b] w fun e w' => e = .returned (.bool (lessSG a b)) ∧ Grew w w' := by
  intro a b ha hb w
  have hw : IntKind.u32.wrap (b - a) = (b - a) % 4294967296 := by simp [IntKind.wrap, IntKind.bits, IntKind.signed]
  have hd := Int.emod_nonneg (b - a) (show (4294967296 : Int) ≠ 0 by omega)
  unfold lessSG
  by_cases h1 : 0 < (b - a) % 4294967296
  · cases h2 : decide ((b - a) % 4294967296 < 2147483648)
    · rw [show decide (1 ≤ (b - a) % 4294967296 ∧ (b - a) % 4294967296 < 2147483648) = false by simp at h2; exact decide_eq_false (by omega)]
      generalize (b - a) % 4294967296 = z at *
      go_enter Try.func17, Try.ntmps17
      go_wp2_with fail
      go_ret
      exact ⟨rfl, Grew.refl _⟩
    · rw [show decide (1 ≤ (b - a) % 4294967296 ∧ (b - a) % 4294967296 < 2147483648) = true by simp at h2; exact decide_eq_true (by omega)]
      generalize (b - a) % 4294967296 = z at *
      go_enter Try.func17, Try.ntmps17
      go_wp2_with fail
      go_ret
      exact ⟨rfl, Grew.refl _⟩
  · rw [show decide (1 ≤ (b - a) % 4294967296 ∧ (b - a) % 4294967296 < 2147483648) = false from decide_eq_false (by omega)]
    generalize (b - a) % 4294967296 = z at *
    go_enter Try.func17, Try.ntmps17
    go_wp2_with fail
    go_ret
    exact ⟨rfl, Grew.refl _⟩
theorem len19_0 {f : SGR} {p1 : Option Addr} {k1 : Nat} (hl : f.x.length ≤ 140737488355328) (q1 : (bits .and .i64 f.fl 2 != 0) = true) (q2 : (bits .and .i64 f.fl 1 != 0) = true) (w : World) :
    Calls Try.prog 15 #[.agg #[.int .i64 f.s, .int .i64 f.d, .int .u32 f.q, .int .u32 f.a, .int .i64 f.fl, .int .i64 f.wn, .int .i64 f.m, .slice p1 f.x.length k1]] w fun e w' => e = .returned (.int .i64 ((f.x.length : Int) + 1 + 1)) ∧ Grew w w' := by
  go_enter Try.func15, Try.ntmps15
  go_upto_region 1 with fail
  have hB : Blk (w.alloc (.cells #[.int .i64 f.s, .int .i64 f.d, .int .u32 f.q, .int .u32 f.a, .int .i64 f.fl, .int .i64 f.wn, .int .i64 f.m, .slice p1 f.x.length k1] 25)) w.heap.size #[.int .i64 f.s, .int .i64 f.d, .int .u32 f.q, .int .u32 f.a, .int .i64 f.fl, .int .i64 f.wn, .int .i64 f.m, .slice p1 f.x.length k1] 25 := Blk.new _ _ _ _ rfl
  have g0 : Grew w (w.alloc (.cells #[.int .i64 f.s, .int .i64 f.d, .int .u32 f.q, .int .u32 f.a, .int .i64 f.fl, .int .i64 f.wn, .int .i64 f.m, .slice p1 f.x.length k1] 25)) := (Grew.refl _).alloc _
  generalize (w.alloc (.cells #[.int .i64 f.s, .int .i64 f.d, .int .u32 f.q, .int .u32 f.a, .int .i64 f.fl, .int .i64 f.wn, .int .i64 f.m, .slice p1 f.x.length k1] 25)) = w0 at *
  generalize hlB : w.heap.size = B at *
  have y4 := hB.cell 4
  have y7 := hB.cell 7
  go_upto_region 2 with fail
  have hB1 := (hB.alloc (.cells #[.int .i64 2, .int .i64 1] 3))
  have hI := Blk.new w0 #[.int .i64 2, .int .i64 1] 3 _ rfl
  have g1 : Grew w (w0.alloc (.cells #[.int .i64 2, .int .i64 1] 3)) := g0.alloc _
  go_upto_region 3 with fail
  generalize (w0.alloc (.cells #[.int .i64 2, .int .i64 1] 3)) = w1 at *
  generalize w0.heap.size = I at *
  have z4 := hB1.cell 4
  have i0 := hI.cell 0
  have i1 := hI.cell 1
  clear y4 y7 hB g0
  refine wp_loop_rounds 3 ?_
  rw [rounds_succ]
  go_wp2_with fail
  rw [rounds_succ]
  go_wp2_with fail
  rw [rounds_succ]
  go_wp2_with fail
  go_ret
  exact ⟨rfl, g1⟩
theorem len19_1 {f : SGR} {p1 : Option Addr} {k1 : Nat} (hl : f.x.length ≤ 140737488355328) (q1 : (bits .and .i64 f.fl 2 != 0) = true) (q2 : (bits .and .i64 f.fl 1 != 0) = false) (w : World) :
    Calls Try.prog 15 #[.agg #[.int .i64 f.s, .int .i64 f.d, .int .u32 f.q, .int .u32 f.a, .int .i64 f.fl, .int .i64 f.wn, .int .i64 f.m, .slice p1 f.x.length k1]] w fun e w' => e = .returned (.int .i64 ((f.x.length : Int) + 1)) ∧ Grew w w' := by
  go_enter Try.func15, Try.ntmps15
  go_upto_region 1 with fail
  have hB : Blk (w.alloc (.cells #[.int .i64 f.s, .int .i64 f.d, .int .u32 f.q, .int .u32 f.a, .int .i64 f.fl, .int .i64 f.wn, .int .i64 f.m, .slice p1 f.x.length k1] 25)) w.heap.size #[.int .i64 f.s, .int .i64 f.d, .int .u32 f.q, .int .u32 f.a, .int .i64 f.fl, .int .i64 f.wn, .int .i64 f.m, .slice p1 f.x.length k1] 25 := Blk.new _ _ _ _ rfl
  have g0 : Grew w (w.alloc (.cells #[.int .i64 f.s, .int .i64 f.d, .int .u32 f.q, .int .u32 f.a, .int .i64 f.fl, .int .i64 f.wn, .int .i64 f.m, .slice p1 f.x.length k1] 25)) := (Grew.refl _).alloc _
  generalize (w.alloc (.cells #[.int .i64 f.s, .int .i64 f.d, .int .u32 f.q, .int .u32 f.a, .int .i64 f.fl, .int .i64 f.wn, .int .i64 f.m, .slice p1 f.x.length k1] 25)) = w0 at *
  generalize hlB : w.heap.size = B at *
  have y4 := hB.cell 4
  have y7 := hB.cell 7
  go_upto_region 2 with fail
  have hB1 := (hB.alloc (.cells #[.int .i64 2, .int .i64 1] 3))
  have hI := Blk.new w0 #[.int .i64 2, .int .i64 1] 3 _ rfl
  have g1 : Grew w (w0.alloc (.cells #[.int .i64 2, .int .i64 1] 3)) := g0.alloc _
  go_upto_region 3 with fail
  generalize (w0.alloc (.cells #[.int .i64 2, .int .i64 1] 3)) = w1 at *
  generalize w0.heap.size = I at *
  have z4 := hB1.cell 4
  have i0 := hI.cell 0
  have i1 := hI.cell 1
  clear y4 y7 hB g0
  refine wp_loop_rounds 3 ?_
  rw [rounds_succ]
  go_wp2_with fail
  rw [rounds_succ]
  go_wp2_with fail
  rw [rounds_succ]
  go_wp2_with fail
  go_ret
  exact ⟨rfl, g1⟩
theorem len19_2 {f : SGR} {p1 : Option Addr} {k1 : Nat} (hl : f.x.length ≤ 140737488355328) (q1 : (bits .and .i64 f.fl 2 != 0) = false) (q2 : (bits .and .i64 f.fl 1 != 0) = true) (w : World) :
    Calls Try.prog 15 #[.agg #[.int .i64 f.s, .int .i64 f.d, .int .u32 f.q, .int .u32 f.a, .int .i64 f.fl, .int .i64 f.wn, .int .i64 f.m, .slice p1 f.x.length k1]] w fun e w' => e = .returned (.int .i64 ((f.x.length : Int) + 1)) ∧ Grew w w' := by
  go_enter Try.func15, Try.ntmps15
  go_upto_region 1 with fail
  have hB : Blk (w.alloc (.cells #[.int .i64 f.s, .int .i64 f.d, .int .u32 f.q, .int .u32 f.a, .int .i64 f.fl, .int .i64 f.wn, .int .i64 f.m, .slice p1 f.x.length k1] 25)) w.heap.size #[.int .i64 f.s, .int .i64 f.d, .int .u32 f.q, .int .u32 f.a, .int .i64 f.fl, .int .i64 f.wn, .int .i64 f.m, .slice p1 f.x.length k1] 25 := Blk.new _ _ _ _ rfl
  have g0 : Grew w (w.alloc (.cells #[.int .i64 f.s, .int .i64 f.d, .int .u32 f.q, .int .u32 f.a, .int .i64 f.fl, .int .i64 f.wn, .int .i64 f.m, .slice p1 f.x.length k1] 25)) := (Grew.refl _).alloc _
  generalize (w.alloc (.cells #[.int .i64 f.s, .int .i64 f.d, .int .u32 f.q, .int .u32 f.a, .int .i64 f.fl, .int .i64 f.wn, .int .i64 f.m, .slice p1 f.x.length k1] 25)) = w0 at *
  generalize hlB : w.heap.size = B at *
  have y4 := hB.cell 4
  have y7 := hB.cell 7
  go_upto_region 2 with fail
  have hB1 := (hB.alloc (.cells #[.int .i64 2, .int .i64 1] 3))
  have hI := Blk.new w0 #[.int .i64 2, .int .i64 1] 3 _ rfl
  have g1 : Grew w (w0.alloc (.cells #[.int .i64 2, .int .i64 1] 3)) := g0.alloc _
  go_upto_region 3 with fail
  generalize (w0.alloc (.cells #[.int .i64 2, .int .i64 1] 3)) = w1 at *
  generalize w0.heap.size = I at *
  have z4 := hB1.cell 4
  have i0 := hI.cell 0
  have i1 := hI.cell 1
  clear y4 y7 hB g0
  refine wp_loop_rounds 3 ?_
  rw [rounds_succ]
  go_wp2_with fail
  rw [rounds_succ]
  go_wp2_with fail
  rw [rounds_succ]
  go_wp2_with fail
  go_ret
  exact ⟨rfl, g1⟩
theorem len19_3 {f : SGR} {p1 : Option Addr} {k1 : Nat} (hl : f.x.length ≤ 140737488355328) (q1 : (bits .and .i64 f.fl 2 != 0) = false) (q2 : (bits .and .i64 f.fl 1 != 0) = false) (w : World) :
    Calls Try.prog 15 #[.agg #[.int .i64 f.s, .int .i64 f.d, .int .u32 f.q, .int .u32 f.a, .int .i64 f.fl, .int .i64 f.wn, .int .i64 f.m, .slice p1 f.x.length k1]] w fun e w' => e = .returned (.int .i64 ((f.x.length : Int))) ∧ Grew w w' := by
  go_enter Try.func15, Try.ntmps15
  go_upto_region 1 with fail
  have hB : Blk (w.alloc (.cells #[.int .i64 f.s, .int .i64 f.d, .int .u32 f.q, .int .u32 f.a, .int .i64 f.fl, .int .i64 f.wn, .int .i64 f.m, .slice p1 f.x.length k1] 25)) w.heap.size #[.int .i64 f.s, .int .i64 f.d, .int .u32 f.q, .int .u32 f.a, .int .i64 f.fl, .int .i64 f.wn, .int .i64 f.m, .slice p1 f.x.length k1] 25 := Blk.new _ _ _ _ rfl
  have g0 : Grew w (w.alloc (.cells #[.int .i64 f.s, .int .i64 f.d, .int .u32 f.q, .int .u32 f.a, .int .i64 f.fl, .int .i64 f.wn, .int .i64 f.m, .slice p1 f.x.length k1] 25)) := (Grew.refl _).alloc _
  generalize (w.alloc (.cells #[.int .i64 f.s, .int .i64 f.d, .int .u32 f.q, .int .u32 f.a, .int .i64 f.fl, .int .i64 f.wn, .int .i64 f.m, .slice p1 f.x.length k1] 25)) = w0 at *
  generalize hlB : w.heap.size = B at *
  have y4 := hB.cell 4
  have y7 := hB.cell 7
  go_upto_region 2 with fail
  have hB1 := (hB.alloc (.cells #[.int .i64 2, .int .i64 1] 3))
  have hI := Blk.new w0 #[.int .i64 2, .int .i64 1] 3 _ rfl
  have g1 : Grew w (w0.alloc (.cells #[.int .i64 2, .int .i64 1] 3)) := g0.alloc _
  go_upto_region 3 with fail
  generalize (w0.alloc (.cells #[.int .i64 2, .int .i64 1] 3)) = w1 at *
  generalize w0.heap.size = I at *
  have z4 := hB1.cell 4
  have i0 := hI.cell 0
  have i1 := hI.cell 1
  clear y4 y7 hB g0
  refine wp_loop_rounds 3 ?_
  rw [rounds_succ]
  go_wp2_with fail
  rw [rounds_succ]
  go_wp2_with fail
  rw [rounds_succ]
  go_wp2_with fail
  go_ret
  exact ⟨rfl, g1⟩
theorem len19_c : ∀ {v : Value} {f : SGR} {w : World}, f.x.length ≤ 140737488355328 → Sg w v f → Calls Try.prog 15 #[v] w fun e w' => e = .returned (.int .i64 (lenSG f)) ∧ Grew w w' := by
  intro v f w hl hv
  obtain ⟨p1, k1, rfl, b1⟩ := hv.shape
  unfold lenSG
  cases q1 : (bits .and .i64 f.fl 2 != 0) <;> cases q2 : (bits .and .i64 f.fl 1 != 0)
  · have := len19_3 (p1 := p1) (k1 := k1) hl q1 q2 w; simpa using this
  · have := len19_2 (p1 := p1) (k1 := k1) hl q1 q2 w; simpa using this
  · have := len19_1 (p1 := p1) (k1 := k1) hl q1 q2 w; simpa using this
  · have := len19_0 (p1 := p1) (k1 := k1) hl q1 q2 w; simpa using this
end Go.Proofs.Ytiaejlbkdgcfiaa
