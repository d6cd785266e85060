/-
  Plain arithmetic: what is taken apart is put together to the word it was, but for a Fence's and an Amo's bits that are not looked at.
-/
import Derived.Test.YtgekmhcekkmdhaaDecG
import Derived.Test.YtgekmhcekkmdhaaDecY
set_option linter.unusedVariables false
set_option linter.unusedSimpArgs false
namespace Go.Proofs.Ytgekmhcekkmdhaa
open Go.RowKit

theorem lowN_nat (n k : Nat) : lowN (n : Int) k = n % 2 ^ k := by
  unfold lowN
  rw [← cast_pow, ← Int.natCast_emod, Int.toNat_natCast]
theorem low5_lt (n : Nat) (h : n < 32) : lowN (n : Int) 5 = n := by rw [lowN_nat]; exact Nat.mod_eq_of_lt h
theorem low3_lt (n : Nat) (h : n < 8) : lowN (n : Int) 3 = n := by rw [lowN_nat]; exact Nat.mod_eq_of_lt h
theorem acc_tff (r1 r2 r3 : Int) : accN true false false r1 r2 r3 = lowN r1 5 * 128 := by simp [accN]
theorem acc_ttf (r1 r2 r3 : Int) : accN true true false r1 r2 r3 = lowN r1 5 * 128 ||| lowN r2 5 * 32768 := by simp [accN]
theorem acc_ftt (r1 r2 r3 : Int) : accN false true true r1 r2 r3 = lowN r2 5 * 32768 ||| lowN r3 5 * 1048576 := by simp [accN]
theorem acc_ttt (r1 r2 r3 : Int) : accN true true true r1 r2 r3 = lowN r1 5 * 128 ||| lowN r2 5 * 32768 ||| lowN r3 5 * 1048576 := by simp [accN]

/-- The word x, taken apart as k, is put together. -/
def Enc (x : Nat) (k : Kd) : Prop := ∃ M : Nat, immN (shp k.c k.f) x = M ∧ M < 18446744073709551616 ∧
  encN k.c k.f k.d (regN (shp k.c k.f).rd x 11 7 : Nat) (regN (shp k.c k.f).rs1 x 19 15 : Nat) (regN (shp k.c k.f).rs2 x 24 20 : Nat) M = x
theorem sx_lt (y : Nat) (n : Int) (h1 : 1 ≤ n) (h2 : n ≤ 63) : sxN y n < 18446744073709551616 := by
  have hp : 2 ^ n.toNat ≤ 2 ^ 63 := Nat.pow_le_pow_right (by decide) (by omega)
  have := Nat.mod_lt y (Nat.pow_pos (n := n.toNat) (show 0 < 2 by decide))
  unfold sxN
  split <;> omega
theorem rd_lt (x : Nat) : fN x 11 7 < 32 := fN_lt x 11 7 32 (by decide)
theorem rs1_lt (x : Nat) : fN x 19 15 < 32 := fN_lt x 19 15 32 (by decide)
theorem rs2_lt (x : Nat) : fN x 24 20 < 32 := fN_lt x 24 20 32 (by decide)
theorem f3_lt (x : Nat) : fN x 14 12 < 8 := fN_lt x 14 12 8 (by decide)

theorem enc_U (x : Nat) (hx : x < 4294967296) (c : Int) (op : Nat) (hc : (c = 1 ∧ op = 55) ∨ (c = 2 ∧ op = 23)) (ho : fN x 6 0 = op) : Enc x ⟨c, 0, false⟩ := by
  have e : shp c 0 = ⟨true, false, false, [⟨31, 12, 12⟩], 32⟩ := by rcases hc with ⟨rfl, _⟩ | ⟨rfl, _⟩ <;> rfl
  have ef : fixN c 0 false = op := by rcases hc with ⟨rfl, rfl⟩ | ⟨rfl, rfl⟩ <;> rfl
  have hop : op < 128 := by rcases hc with ⟨_, rfl⟩ | ⟨_, rfl⟩ <;> decide
  have hX : x / 4096 < 1048576 := by omega
  refine ⟨sxN (x / 4096 * 4096) 32, ?_, sx_lt _ _ (by decide) (by decide), ?_⟩
  · show immN (shp c 0) x = _
    rw [e]
    show sextV (orK x [⟨31, 12, 12⟩] 1 : Nat) 32 = _
    rw [or_lui, f_31_12 x hx, sxN_sext _ 32 (by decide) (by decide)]
  · show encN c 0 false (regN (shp c 0).rd x 11 7 : Nat) (regN (shp c 0).rs1 x 19 15 : Nat) (regN (shp c 0).rs2 x 24 20 : Nat) _ = x
    unfold encN sprN
    rw [e, ef]
    show op ||| (accN true false false (fN x 11 7 : Nat) (0 : Nat) (0 : Nat) ||| fN (sxN (x / 4096 * 4096) 32) 31 12 * 4096) = x
    rw [acc_tff, low5_lt _ (rd_lt x), m32 _ hX, or_U _ _ _ hop (rd_lt x) hX, f_11_7]
    rw [f_6_0] at ho
    omega
theorem enc_J (x : Nat) (hx : x < 4294967296) (ho : fN x 6 0 = 111) : Enc x ⟨3, 0, false⟩ := by
  have hm := m21 (x / 2147483648) (x / 2097152 % 1024) (x / 1048576 % 2) (x / 4096 % 256) (by omega) (by omega) (by omega) (by omega) _ rfl
  refine ⟨sxN (x / 2147483648 * 1048576 + x / 2097152 % 1024 * 2 + x / 1048576 % 2 * 2048 + x / 4096 % 256 * 4096) 21, ?_, sx_lt _ _ (by decide) (by decide), ?_⟩
  · show sextV (orK x [⟨31, 31, 20⟩, ⟨30, 21, 1⟩, ⟨20, 20, 11⟩, ⟨19, 12, 12⟩] 4 : Nat) 21 = _
    rw [or_j x hx, sxN_sext _ 21 (by decide) (by decide)]
  · generalize sxN (x / 2147483648 * 1048576 + x / 2097152 % 1024 * 2 + x / 1048576 % 2 * 2048 + x / 4096 % 256 * 4096) 21 = M at *
    obtain ⟨h1, h2, h3, h4⟩ := hm
    show 111 ||| ((((accN true false false (fN x 11 7 : Nat) (0 : Nat) (0 : Nat) ||| fN M 20 20 * 2147483648) ||| fN M 10 1 * 2097152) ||| fN M 11 11 * 1048576) ||| fN M 19 12 * 4096) = x
    rw [acc_tff, low5_lt _ (rd_lt x), h1, h2, h3, h4, or_J _ _ _ _ _ (rd_lt x) (by omega) (by omega) (by omega) (by omega), f_11_7]
    rw [f_6_0] at ho
    omega
theorem imm12 (x : Nat) (hx : x < 4294967296) : immN (tw 12) x = (sxN (x / 1048576) 12 : Nat) := by
  show sextV (orK x [⟨31, 20, 0⟩] 1 : Nat) 12 = _
  rw [or_i, f_31_20 x hx, sxN_sext _ 12 (by decide) (by decide)]
theorem enc_Jr (x : Nat) (hx : x < 4294967296) (ho : fN x 6 0 = 103) (hf : fN x 14 12 = 0) : Enc x ⟨4, 0, false⟩ := by
  have hX : x / 1048576 < 4096 := by omega
  refine ⟨sxN (x / 1048576) 12, imm12 x hx, sx_lt _ _ (by decide) (by decide), ?_⟩
  show 103 ||| (accN true true false (fN x 11 7 : Nat) (fN x 19 15 : Nat) (0 : Nat) ||| fN (sxN (x / 1048576) 12) 11 0 * 1048576) = x
  rw [acc_ttf, low5_lt _ (rd_lt x), low5_lt _ (rs1_lt x), m12 _ hX, or_I0 _ _ _ _ (by decide) (rd_lt x) (rs1_lt x) hX, f_11_7, f_19_15]
  rw [f_6_0] at ho
  rw [f_14_12] at hf
  omega
theorem enc_B (x : Nat) (hx : x < 4294967296) (ho : fN x 6 0 = 99) : Enc x ⟨5, (fN x 14 12 : Nat), false⟩ := by
  have hm := m13 (x / 2147483648) (x / 33554432 % 64) (x / 256 % 16) (x / 128 % 2) (by omega) (by omega) (by omega) (by omega) _ rfl
  refine ⟨sxN (x / 2147483648 * 4096 + x / 33554432 % 64 * 32 + x / 256 % 16 * 2 + x / 128 % 2 * 2048) 13, ?_, sx_lt _ _ (by decide) (by decide), ?_⟩
  · show sextV (orK x [⟨31, 31, 12⟩, ⟨30, 25, 5⟩, ⟨11, 8, 1⟩, ⟨7, 7, 11⟩] 4 : Nat) 13 = _
    rw [or_b x hx, sxN_sext _ 13 (by decide) (by decide)]
  · generalize sxN (x / 2147483648 * 4096 + x / 33554432 % 64 * 32 + x / 256 % 16 * 2 + x / 128 % 2 * 2048) 13 = M at *
    obtain ⟨h1, h2, h3, h4⟩ := hm
    show (lowN (fN x 14 12 : Nat) 3 * 4096 ||| 99) ||| ((((accN false true true (0 : Nat) (fN x 19 15 : Nat) (fN x 24 20 : Nat) ||| fN M 12 12 * 2147483648) ||| fN M 10 5 * 33554432) ||| fN M 4 1 * 256) ||| fN M 11 11 * 128) = x
    rw [acc_ftt, low5_lt _ (rs1_lt x), low5_lt _ (rs2_lt x), low3_lt _ (f3_lt x), h1, h2, h3, h4, or_B _ _ _ _ _ _ _ (f3_lt x) (rs1_lt x) (rs2_lt x) (by omega) (by omega) (by omega) (by omega), f_14_12, f_19_15, f_24_20]
    rw [f_6_0] at ho
    omega
theorem enc_L (x : Nat) (hx : x < 4294967296) (ho : fN x 6 0 = 3) : Enc x ⟨6, (fN x 14 12 : Nat), false⟩ := by
  have hX : x / 1048576 < 4096 := by omega
  refine ⟨sxN (x / 1048576) 12, imm12 x hx, sx_lt _ _ (by decide) (by decide), ?_⟩
  show (lowN (fN x 14 12 : Nat) 3 * 4096 ||| 3) ||| (accN true true false (fN x 11 7 : Nat) (fN x 19 15 : Nat) (0 : Nat) ||| fN (sxN (x / 1048576) 12) 11 0 * 1048576) = x
  rw [acc_ttf, low5_lt _ (rd_lt x), low5_lt _ (rs1_lt x), low3_lt _ (f3_lt x), m12 _ hX, or_I _ _ _ _ _ (f3_lt x) (by decide) (rd_lt x) (rs1_lt x) hX, f_11_7, f_19_15, f_14_12]
  rw [f_6_0] at ho
  omega
theorem enc_S (x : Nat) (hx : x < 4294967296) (ho : fN x 6 0 = 35) : Enc x ⟨7, (fN x 14 12 : Nat), false⟩ := by
  have hm := m12s (x / 33554432) (x / 128 % 32) (by omega) (by omega)
  refine ⟨sxN (x / 33554432 * 32 + x / 128 % 32) 12, ?_, sx_lt _ _ (by decide) (by decide), ?_⟩
  · show sextV (orK x [⟨31, 25, 5⟩, ⟨11, 7, 0⟩] 2 : Nat) 12 = _
    rw [or_s x hx, sxN_sext _ 12 (by decide) (by decide)]
  · show (lowN (fN x 14 12 : Nat) 3 * 4096 ||| 35) ||| ((accN false true true (0 : Nat) (fN x 19 15 : Nat) (fN x 24 20 : Nat) ||| fN (sxN (x / 33554432 * 32 + x / 128 % 32) 12) 11 5 * 33554432) ||| fN (sxN (x / 33554432 * 32 + x / 128 % 32) 12) 4 0 * 128) = x
    rw [acc_ftt, low5_lt _ (rs1_lt x), low5_lt _ (rs2_lt x), low3_lt _ (f3_lt x), hm.1, hm.2, or_S _ _ _ _ _ (f3_lt x) (rs1_lt x) (rs2_lt x) (by omega) (by omega), f_14_12, f_19_15, f_24_20]
    rw [f_6_0] at ho
    omega
theorem enc_C (x : Nat) (hx : x < 4294967296) (ho : fN x 6 0 = 115) : Enc x ⟨12, (fN x 14 12 : Nat), false⟩ := by
  have hX : x / 1048576 < 4096 := by omega
  have e : ∀ m : Nat, m < 4096 → fN m 11 0 = m := fun m h => by simp [fN]; omega
  refine ⟨x / 1048576, ?_, by omega, ?_⟩
  · show sextV (orK x [⟨31, 20, 0⟩] 1 : Nat) 64 = _
    rw [or_i, sextV64, f_31_20 x hx]
  · show (lowN (fN x 14 12 : Nat) 3 * 4096 ||| 115) ||| (accN true true false (fN x 11 7 : Nat) (fN x 19 15 : Nat) (0 : Nat) ||| fN (x / 1048576) 11 0 * 1048576) = x
    rw [acc_ttf, low5_lt _ (rd_lt x), low5_lt _ (rs1_lt x), low3_lt _ (f3_lt x), e _ hX, or_I _ _ _ _ _ (f3_lt x) (by decide) (rd_lt x) (rs1_lt x) hX, f_11_7, f_19_15, f_14_12]
    rw [f_6_0] at ho
    omega
theorem up_small (n : Nat) (h : n < 8) : upF (n : Int) = 0 := by unfold upF; rw [if_neg (by omega), if_neg (by omega)]
theorem enc_8i (x : Nat) (hx : x < 4294967296) (d : Bool) (ho : fN x 6 0 = if d then 27 else 19) (h1 : ¬ fN x 14 12 = 1) (h5 : ¬ fN x 14 12 = 5) : Enc x ⟨8, (fN x 14 12 : Nat), d⟩ := by
  have hX : x / 1048576 < 4096 := by omega
  have hf := f3_lt x
  have e : shp 8 (fN x 14 12 : Nat) = tw 12 := by
    show immShp (fN x 14 12 : Nat) = tw 12
    unfold immShp
    rw [if_neg (by omega)]
  refine ⟨sxN (x / 1048576) 12, ?_, sx_lt _ _ (by decide) (by decide), ?_⟩
  · show immN (shp 8 (fN x 14 12 : Nat)) x = _
    rw [e]
    exact imm12 x hx
  · show encN 8 (fN x 14 12 : Nat) d (regN (shp 8 (fN x 14 12 : Nat)).rd x 11 7 : Nat) (regN (shp 8 (fN x 14 12 : Nat)).rs1 x 19 15 : Nat) (regN (shp 8 (fN x 14 12 : Nat)).rs2 x 24 20 : Nat) _ = x
    unfold encN sprN
    rw [e]
    show ((lowN (fN x 14 12 : Nat) 3 * 4096 ||| upF (fN x 14 12 : Nat) * 33554432) ||| (if d then 27 else 19)) ||| (accN true true false (fN x 11 7 : Nat) (fN x 19 15 : Nat) (0 : Nat) ||| fN (sxN (x / 1048576) 12) 11 0 * 1048576) = x
    rw [← ho, acc_ttf, low5_lt _ (rd_lt x), low5_lt _ (rs1_lt x), low3_lt _ hf, up_small _ hf, m12 _ hX, or_I3 _ _ _ _ _ hf (fN_lt x 6 0 128 (by decide)) (rd_lt x) (rs1_lt x) hX, f_11_7, f_19_15, f_14_12, f_6_0]
    omega
theorem enc_8s (x : Nat) (hx : x < 4294967296) (d : Bool) (ho : fN x 6 0 = if d then 27 else 19) (F : Int) (u : Nat) (hF : (F = 1 ∧ fN x 14 12 = 1 ∧ u = 0) ∨ (F = 5 ∧ fN x 14 12 = 5 ∧ u = 0) ∨ (F = 13 ∧ fN x 14 12 = 5 ∧ u = 32)) (hg : x / 67108864 = u / 2) : Enc x ⟨8, F, d⟩ := by
  have e : shp 8 F = ⟨true, true, false, [⟨25, 20, 0⟩], 64⟩ := by
    show immShp F = _
    unfold immShp
    rw [if_pos (by omega)]
  have hu : upF F = u := by rcases hF with ⟨rfl, _, rfl⟩ | ⟨rfl, _, rfl⟩ | ⟨rfl, _, rfl⟩ <;> rfl
  have hl : lowN F 3 = fN x 14 12 := by rcases hF with ⟨rfl, h, _⟩ | ⟨rfl, h, _⟩ | ⟨rfl, h, _⟩ <;> (rw [h]; rfl)
  have hM : fN x 25 20 < 64 := fN_lt x 25 20 64 (by decide)
  have eM : ∀ m : Nat, m < 64 → fN m 5 0 = m := fun m h => by simp [fN]; omega
  refine ⟨fN x 25 20, ?_, by omega, ?_⟩
  · show immN (shp 8 F) x = _
    rw [e]
    show sextV (orK x [⟨25, 20, 0⟩] 1 : Nat) 64 = _
    rw [or_sh, sextV64]
  · show encN 8 F d (regN (shp 8 F).rd x 11 7 : Nat) (regN (shp 8 F).rs1 x 19 15 : Nat) (regN (shp 8 F).rs2 x 24 20 : Nat) _ = x
    unfold encN sprN
    rw [e]
    show ((lowN F 3 * 4096 ||| upF F * 33554432) ||| (if d then 27 else 19)) ||| (accN true true false (fN x 11 7 : Nat) (fN x 19 15 : Nat) (0 : Nat) ||| fN (fN x 25 20) 5 0 * 1048576) = x
    rw [← ho, acc_ttf, low5_lt _ (rd_lt x), low5_lt _ (rs1_lt x), hl, hu, eM _ hM, or_Sh _ _ _ _ _ _ (f3_lt x) (by omega) (fN_lt x 6 0 128 (by decide)) (rd_lt x) (rs1_lt x) hM, f_11_7, f_19_15, f_14_12, f_6_0, f_25_20]
    omega
theorem enc_9 (x : Nat) (hx : x < 4294967296) (d : Bool) (ho : fN x 6 0 = if d then 59 else 51) (F : Int) (hl : lowN F 3 = fN x 14 12) (hu : upF F = fN x 31 25) : Enc x ⟨9, F, d⟩ := by
  refine ⟨0, sextV0 _, by decide, ?_⟩
  show ((lowN F 3 * 4096 ||| upF F * 33554432) ||| (if d then 59 else 51)) ||| accN true true true (fN x 11 7 : Nat) (fN x 19 15 : Nat) (fN x 24 20 : Nat) = x
  rw [← ho, acc_ttt, low5_lt _ (rd_lt x), low5_lt _ (rs1_lt x), low5_lt _ (rs2_lt x), hl, hu, or_R _ _ _ _ _ _ (f3_lt x) (fN_lt x 31 25 128 (by decide)) (fN_lt x 6 0 128 (by decide)) (rd_lt x) (rs1_lt x) (rs2_lt x), f_11_7, f_19_15, f_14_12, f_6_0, f_24_20, f_31_25 x hx]
  omega
theorem enc_11s (x : Nat) (hx : x < 4294967296) (ho : fN x 6 0 = 115) (hf : fN x 14 12 = 0) (hg : fN x 31 25 = 9) (hr : fN x 11 7 = 0) : Enc x ⟨11, 5, false⟩ := by
  refine ⟨0, sextV0 _, by decide, ?_⟩
  show 301990003 ||| accN false true true (0 : Nat) (fN x 19 15 : Nat) (fN x 24 20 : Nat) = x
  rw [acc_ftt, low5_lt _ (rs1_lt x), low5_lt _ (rs2_lt x), or_F _ _ (rs1_lt x) (rs2_lt x), f_19_15, f_24_20]
  rw [f_6_0] at ho
  rw [f_14_12] at hf
  rw [f_31_25 x hx] at hg
  rw [f_11_7] at hr
  omega
theorem enc_w0 : Enc 115 ⟨11, 0, false⟩ := ⟨0, by kernel_rfl, by decide, by kernel_rfl⟩
theorem enc_w1 : Enc 1048691 ⟨11, 1, false⟩ := ⟨0, by kernel_rfl, by decide, by kernel_rfl⟩
theorem enc_w2 : Enc 270532723 ⟨11, 2, false⟩ := ⟨0, by kernel_rfl, by decide, by kernel_rfl⟩
theorem enc_w3 : Enc 807403635 ⟨11, 3, false⟩ := ⟨0, by kernel_rfl, by decide, by kernel_rfl⟩
theorem enc_w4 : Enc 273678451 ⟨11, 4, false⟩ := ⟨0, by kernel_rfl, by decide, by kernel_rfl⟩

/-- The word x is taken apart; what it is taken apart to is put together to y, which is taken apart likewise. -/
def Back (x : Nat) : Prop := ∃ M y : Nat, (decI x).m = M ∧ M < 18446744073709551616 ∧ encN (decI x).c (decI x).f (decI x).d (decI x).r1 (decI x).r2 (decI x).r3 M = y ∧ noB (kOf y) = false ∧ decI y = decI x ∧ (y = x ∨ (decI x).c = 10 ∨ (decI x).c = 13)
theorem Back.of {x : Nat} {k : Kd} (hk : kOf x = k) (hn : noB k = false) (h : Enc x k) : Back x := by
  obtain ⟨M, h1, h2, h3⟩ := h
  subst hk
  exact ⟨M, x, h1, h2, h3, hn, rfl, .inl rfl⟩
theorem on_yes {b : Bool} {c f : Int} {d : Bool} (h : noB (kOn b c f d) = false) : b = true ∧ kOn b c f d = ⟨c, f, d⟩ := by
  cases b
  · exact absurd (show noB (kOn false c f d) = true from rfl) (by rw [h]; decide)
  · exact ⟨rfl, rfl⟩
theorem fence_back (x : Nat) (f : Int) (hk : kOf x = ⟨10, f, false⟩) (hf : f = 0 ∨ f = 1) : Back x := by
  have e : decI x = ⟨10, f, false, 0, 0, 0, 0⟩ := by
    unfold decI
    rw [hk]
    show (⟨10, f, false, 0, 0, 0, sextV _ 0⟩ : Ins) = _
    rw [sextV0]
  unfold Back
  rw [e]
  rcases hf with rfl | rfl
  · exact ⟨0, 15, rfl, by decide, by kernel_rfl, by kernel_rfl, by kernel_rfl, .inr (.inl rfl)⟩
  · exact ⟨0, 4111, rfl, by decide, by kernel_rfl, by kernel_rfl, by kernel_rfl, .inr (.inl rfl)⟩
theorem fix13 (f : Int) (d : Bool) : fixN 13 f d = lowN f 5 * 134217728 ||| (if d then 8192 else 12288) ||| 47 := by simp [fixN]
theorem amo_if (n v : Nat) (hv : v = n * 4096) (hn : n = 2 ∨ n = 3) : (if ((n : Int) == 2) = true then 8192 else 12288) = v := by
  rcases hn with rfl | rfl
  · rw [if_pos (by decide), hv]
  · rw [if_neg (by decide), hv]
theorem amo_back (x : Nat) (hx : x < 4294967296) (ho : fN x 6 0 = 47) (hf : fN x 14 12 = 2 ∨ fN x 14 12 = 3) (hk : kOf x = ⟨13, (fN x 31 27 : Nat), ((fN x 14 12 : Nat) : Int) == 2⟩) : Back x := by
  obtain ⟨v, hv⟩ : ∃ v, v = fN x 14 12 * 4096 := ⟨_, rfl⟩
  have hq : fN x 31 27 < 32 := fN_lt x 31 27 32 (by decide)
  have h1 := rd_lt x
  have h2 := rs1_lt x
  have h3 := rs2_lt x
  obtain ⟨y, hy⟩ : ∃ y, y = fN x 31 27 * 134217728 + v + 47 + fN x 11 7 * 128 + fN x 19 15 * 32768 + fN x 24 20 * 1048576 := ⟨_, rfl⟩
  have hv' : v = 8192 ∨ v = 12288 := by omega
  have hyl : y < 4294967296 := by omega
  have y1 : fN y 6 0 = 47 := by rw [f_6_0]; omega
  have y2 : fN y 14 12 = fN x 14 12 := by rw [f_14_12 y]; omega
  have y3 : fN y 31 27 = fN x 31 27 := by rw [f_31_27 y hyl]; omega
  have y4 : fN y 24 20 = fN x 24 20 := by rw [f_24_20 y]; omega
  have y5 : fN y 11 7 = fN x 11 7 := by rw [f_11_7 y]; omega
  have y6 : fN y 19 15 = fN x 19 15 := by rw [f_19_15 y]; omega
  have ky : kOf y = kOf x := by
    unfold kOf kF
    rw [y1, ho, y2]
    show kAmo y _ = kAmo x _
    unfold kAmo
    rw [y3, y4]
  have e : decI x = ⟨13, (fN x 31 27 : Nat), ((fN x 14 12 : Nat) : Int) == 2, (fN x 11 7 : Nat), (fN x 19 15 : Nat), (fN x 24 20 : Nat), 0⟩ := by
    unfold decI
    rw [hk]
    show (⟨13, _, _, _, _, _, sextV _ 0⟩ : Ins) = _
    rw [sextV0]
    rfl
  have ey : decI y = decI x := by
    rw [e]
    unfold decI
    rw [ky, hk]
    show (⟨13, _, _, (fN y 11 7 : Nat), (fN y 19 15 : Nat), (fN y 24 20 : Nat), sextV _ 0⟩ : Ins) = _
    rw [sextV0, y4, y5, y6]
  unfold Back
  refine ⟨0, y, by rw [e]; rfl, by decide, ?_, ?_, ey, ?_⟩
  · rw [e]
    dsimp only
    unfold encN
    rw [fix13, show sprN (shp 13 (fN x 31 27 : Nat)) (fN x 11 7 : Nat) (fN x 19 15 : Nat) (fN x 24 20 : Nat) 0 = accN true true true (fN x 11 7 : Nat) (fN x 19 15 : Nat) (fN x 24 20 : Nat) from rfl]
    have hw := amo_if _ _ hv hf
    rw [hw, acc_ttt, low5_lt _ h1, low5_lt _ h2, low5_lt _ h3, low5_lt _ hq, or_A _ _ _ _ _ hq hv' h1 h2 h3, hy]
  · rw [ky, hk]
    rfl
  · rw [e]
    exact .inr (.inr rfl)
end Go.Proofs.Ytgekmhcekkmdhaa
