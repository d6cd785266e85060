/-
  Plain arithmetic of an instruction's fields: bits beside one another are sums; immediates with their sign. No program is looked at here.
-/
import Derived.Test.YtgekmhcekkmdhaaDecM
set_option linter.unusedVariables false
set_option linter.unusedSimpArgs false
namespace Go.Proofs.Ytgekmhcekkmdhaa
open Go.RowKit

/-- Bits that are laid where there are none. -/
theorem or_slot (a b P Q lo k : Nat) (hP : P = 2 ^ lo) (hQ : Q = 2 ^ k) (hb : b < Q) (ha : a / P % Q = 0) : a ||| b * P = a + b * P := by
  subst hP hQ
  have h1 : a = 2 ^ (lo + k) * (a / 2 ^ (lo + k)) + a % 2 ^ lo := by
    have h2 : a / 2 ^ lo / 2 ^ k = a / 2 ^ (lo + k) := by rw [Nat.div_div_eq_div_mul, ← Nat.pow_add]
    have h3 := Nat.div_add_mod (a / 2 ^ lo) (2 ^ k)
    have h4 := Nat.div_add_mod a (2 ^ lo)
    rw [h2, ha, Nat.add_zero] at h3
    rw [← h3, ← Nat.mul_assoc, ← Nat.pow_add] at h4
    exact h4.symm
  have hlt : a % 2 ^ lo < 2 ^ lo := Nat.mod_lt _ (Nat.pow_pos (by decide))
  generalize a / 2 ^ (lo + k) = H at h1
  generalize a % 2 ^ lo = L at h1 hlt
  subst h1
  have h5 : 2 ^ lo * b + L < 2 ^ (lo + k) := by
    rw [Nat.pow_add]
    calc 2 ^ lo * b + L < 2 ^ lo * b + 2 ^ lo := Nat.add_lt_add_left hlt _
      _ = 2 ^ lo * (b + 1) := by rw [Nat.mul_succ]
      _ ≤ 2 ^ lo * 2 ^ k := Nat.mul_le_mul_left _ hb
  have hL : L < 2 ^ (lo + k) := by omega
  have e1 : 2 ^ (lo + k) * H + L = 2 ^ (lo + k) * H ||| L := Nat.two_pow_add_eq_or_of_lt hL H
  have e2 : 2 ^ lo * b + L = 2 ^ lo * b ||| L := Nat.two_pow_add_eq_or_of_lt hlt b
  have e3 : 2 ^ (lo + k) * H + (2 ^ lo * b + L) = 2 ^ (lo + k) * H ||| (2 ^ lo * b + L) := Nat.two_pow_add_eq_or_of_lt h5 H
  have e4 : (2 ^ (lo + k) * H + L) ||| b * 2 ^ lo = 2 ^ (lo + k) * H + (2 ^ lo * b + L) := by
    rw [e1, Nat.mul_comm b, Nat.or_assoc, Nat.or_comm L, ← e2, ← e3]
  rw [e4, Nat.mul_comm b]
  omega
theorem or_low (a b Q k : Nat) (hQ : Q = 2 ^ k) (hb : b < Q) (ha : a % Q = 0) : a ||| b = a + b := by
  have := or_slot a b 1 Q 0 k rfl hQ hb (by simpa using ha)
  simpa using this

theorem sextV64 (y : Int) : sextV y 64 = y := by unfold sextV; rw [if_neg (by decide), if_pos (by decide)]
theorem sextV0 (y : Int) : sextV y 0 = 0 := by unfold sextV; rw [if_pos (by decide)]
theorem sx12 (y : Nat) (h : y < 4096) : sxN y 12 = if y < 2048 then y else y + 18446744073709547520 := by
  have : y % 4096 = y := Nat.mod_eq_of_lt h
  simp [sxN, this]
theorem sx13 (y : Nat) (h : y < 8192) : sxN y 13 = if y < 4096 then y else y + 18446744073709543424 := by
  have : y % 8192 = y := Nat.mod_eq_of_lt h
  simp [sxN, this]
theorem sx21 (y : Nat) (h : y < 2097152) : sxN y 21 = if y < 1048576 then y else y + 18446744073707454464 := by
  have : y % 2097152 = y := Nat.mod_eq_of_lt h
  simp [sxN, this]
theorem sx32 (y : Nat) (h : y < 4294967296) : sxN y 32 = if y < 2147483648 then y else y + 18446744069414584320 := by
  have : y % 4294967296 = y := Nat.mod_eq_of_lt h
  simp [sxN, this]

theorem f_31_12 (x : Nat) (hx : x < 4294967296) : fN x 31 12 = x / 4096 := by simp [fN]; omega
theorem f_31_31 (x : Nat) (hx : x < 4294967296) : fN x 31 31 = x / 2147483648 := by simp [fN]; omega
theorem f_30_21 (x : Nat) : fN x 30 21 = x / 2097152 % 1024 := by simp [fN]
theorem f_20_20 (x : Nat) : fN x 20 20 = x / 1048576 % 2 := by simp [fN]
theorem f_19_12 (x : Nat) : fN x 19 12 = x / 4096 % 256 := by simp [fN]
theorem f_30_25 (x : Nat) : fN x 30 25 = x / 33554432 % 64 := by simp [fN]
theorem f_11_8 (x : Nat) : fN x 11 8 = x / 256 % 16 := by simp [fN]
theorem f_7_7 (x : Nat) : fN x 7 7 = x / 128 % 2 := by simp [fN]
theorem f_31_25 (x : Nat) (hx : x < 4294967296) : fN x 31 25 = x / 33554432 := by simp [fN]; omega
theorem f_11_7 (x : Nat) : fN x 11 7 = x / 128 % 32 := by simp [fN]
theorem f_31_20 (x : Nat) (hx : x < 4294967296) : fN x 31 20 = x / 1048576 := by simp [fN]; omega
theorem f_25_20 (x : Nat) : fN x 25 20 = x / 1048576 % 64 := by simp [fN]
theorem f_24_20 (x : Nat) : fN x 24 20 = x / 1048576 % 32 := by simp [fN]
theorem f_19_15 (x : Nat) : fN x 19 15 = x / 32768 % 32 := by simp [fN]
theorem f_14_12 (x : Nat) : fN x 14 12 = x / 4096 % 8 := by simp [fN]
theorem f_6_0 (x : Nat) : fN x 6 0 = x % 128 := by simp [fN]
theorem f_31_27 (x : Nat) (hx : x < 4294967296) : fN x 31 27 = x / 134217728 := by simp [fN]; omega

/-! The immediates. -/
theorem or_lui (x : Nat) : orK x [⟨31, 12, 12⟩] 1 = fN x 31 12 * 4096 := by
  show 0 ||| fN x 31 12 * 4096 = _
  exact Nat.zero_or _
theorem or_i (x : Nat) : orK x [⟨31, 20, 0⟩] 1 = fN x 31 20 := by
  show 0 ||| fN x 31 20 * 1 = _
  rw [Nat.zero_or, Nat.mul_one]
theorem or_sh (x : Nat) : orK x [⟨25, 20, 0⟩] 1 = fN x 25 20 := by
  show 0 ||| fN x 25 20 * 1 = _
  rw [Nat.zero_or, Nat.mul_one]
theorem or_s (x : Nat) (hx : x < 4294967296) : orK x [⟨31, 25, 5⟩, ⟨11, 7, 0⟩] 2 = x / 33554432 * 32 + x / 128 % 32 := by
  show (0 ||| fN x 31 25 * 32) ||| fN x 11 7 * 1 = _
  rw [Nat.zero_or, Nat.mul_one, f_31_25 x hx, f_11_7]
  exact or_low _ _ 32 5 rfl (by omega) (by omega)
theorem or_j4 (A B C D : Nat) (hA : A < 2) (hB : B < 1024) (hC : C < 2) (hD : D < 256) : ((A * 1048576 ||| B * 2) ||| C * 2048) ||| D * 4096 = A * 1048576 + B * 2 + C * 2048 + D * 4096 := by
  rw [or_slot _ B 2 1024 1 10 rfl rfl hB (by omega), or_slot _ C 2048 2 11 1 rfl rfl hC (by omega), or_slot _ D 4096 256 12 8 rfl rfl hD (by omega)]
theorem or_b4 (A B C D : Nat) (hA : A < 2) (hB : B < 64) (hC : C < 16) (hD : D < 2) : ((A * 4096 ||| B * 32) ||| C * 2) ||| D * 2048 = A * 4096 + B * 32 + C * 2 + D * 2048 := by
  rw [or_slot _ B 32 64 5 6 rfl rfl hB (by omega), or_slot _ C 2 16 1 4 rfl rfl hC (by omega), or_slot _ D 2048 2 11 1 rfl rfl hD (by omega)]
theorem or_j (x : Nat) (hx : x < 4294967296) : orK x [⟨31, 31, 20⟩, ⟨30, 21, 1⟩, ⟨20, 20, 11⟩, ⟨19, 12, 12⟩] 4 = x / 2147483648 * 1048576 + x / 2097152 % 1024 * 2 + x / 1048576 % 2 * 2048 + x / 4096 % 256 * 4096 := by
  show (((0 ||| fN x 31 31 * 1048576) ||| fN x 30 21 * 2) ||| fN x 20 20 * 2048) ||| fN x 19 12 * 4096 = _
  rw [Nat.zero_or, f_31_31 x hx, f_30_21, f_20_20, f_19_12]
  exact or_j4 _ _ _ _ (by omega) (by omega) (by omega) (by omega)
theorem or_b (x : Nat) (hx : x < 4294967296) : orK x [⟨31, 31, 12⟩, ⟨30, 25, 5⟩, ⟨11, 8, 1⟩, ⟨7, 7, 11⟩] 4 = x / 2147483648 * 4096 + x / 33554432 % 64 * 32 + x / 256 % 16 * 2 + x / 128 % 2 * 2048 := by
  show (((0 ||| fN x 31 31 * 4096) ||| fN x 30 25 * 32) ||| fN x 11 8 * 2) ||| fN x 7 7 * 2048 = _
  rw [Nat.zero_or, f_31_31 x hx, f_30_25, f_11_8, f_7_7]
  exact or_b4 _ _ _ _ (by omega) (by omega) (by omega) (by omega)
end Go.Proofs.Ytgekmhcekkmdhaa
