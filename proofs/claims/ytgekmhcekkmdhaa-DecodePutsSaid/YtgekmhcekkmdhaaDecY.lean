/-
  Plain arithmetic: the words that Encode lays together, as sums.
-/
import Derived.Test.YtgekmhcekkmdhaaDecZ
set_option linter.unusedVariables false
set_option linter.unusedSimpArgs false
namespace Go.Proofs.Ytgekmhcekkmdhaa

theorem or_U (op rd X : Nat) (h0 : op < 128) (h1 : rd < 32) (h2 : X < 1048576) : op ||| (rd * 128 ||| X * 4096) = op + rd * 128 + X * 4096 := by
  rw [← Nat.or_assoc, or_slot op rd 128 32 7 5 rfl rfl h1 (by omega), or_slot _ X 4096 1048576 12 20 rfl rfl h2 (by omega)]
theorem or_J (rd A B C D : Nat) (h1 : rd < 32) (hA : A < 2) (hB : B < 1024) (hC : C < 2) (hD : D < 256) :
    111 ||| ((((rd * 128 ||| A * 2147483648) ||| B * 2097152) ||| C * 1048576) ||| D * 4096) = 111 + rd * 128 + A * 2147483648 + B * 2097152 + C * 1048576 + D * 4096 := by
  rw [← Nat.or_assoc, ← Nat.or_assoc, ← Nat.or_assoc, ← Nat.or_assoc, or_slot 111 rd 128 32 7 5 rfl rfl h1 (by decide), or_slot _ A 2147483648 2 31 1 rfl rfl hA (by omega), or_slot _ B 2097152 1024 21 10 rfl rfl hB (by omega), or_slot _ C 1048576 2 20 1 rfl rfl hC (by omega), or_slot _ D 4096 256 12 8 rfl rfl hD (by omega)]
theorem or_I (f op rd s1 i : Nat) (hf : f < 8) (h0 : op < 128) (h1 : rd < 32) (h2 : s1 < 32) (h3 : i < 4096) :
    (f * 4096 ||| op) ||| ((rd * 128 ||| s1 * 32768) ||| i * 1048576) = f * 4096 + op + rd * 128 + s1 * 32768 + i * 1048576 := by
  rw [← Nat.or_assoc, ← Nat.or_assoc, or_low (f * 4096) op 128 7 rfl h0 (by omega), or_slot _ rd 128 32 7 5 rfl rfl h1 (by omega), or_slot _ s1 32768 32 15 5 rfl rfl h2 (by omega), or_slot _ i 1048576 4096 20 12 rfl rfl h3 (by omega)]
theorem or_I0 (op rd s1 i : Nat) (h0 : op < 128) (h1 : rd < 32) (h2 : s1 < 32) (h3 : i < 4096) : op ||| ((rd * 128 ||| s1 * 32768) ||| i * 1048576) = op + rd * 128 + s1 * 32768 + i * 1048576 := by
  rw [← Nat.or_assoc, ← Nat.or_assoc, or_slot op rd 128 32 7 5 rfl rfl h1 (by omega), or_slot _ s1 32768 32 15 5 rfl rfl h2 (by omega), or_slot _ i 1048576 4096 20 12 rfl rfl h3 (by omega)]
theorem or_B (f s1 s2 A B C D : Nat) (hf : f < 8) (h2 : s1 < 32) (h3 : s2 < 32) (hA : A < 2) (hB : B < 64) (hC : C < 16) (hD : D < 2) :
    (f * 4096 ||| 99) ||| (((((s1 * 32768 ||| s2 * 1048576) ||| A * 2147483648) ||| B * 33554432) ||| C * 256) ||| D * 128) = f * 4096 + 99 + s1 * 32768 + s2 * 1048576 + A * 2147483648 + B * 33554432 + C * 256 + D * 128 := by
  rw [← Nat.or_assoc, ← Nat.or_assoc, ← Nat.or_assoc, ← Nat.or_assoc, ← Nat.or_assoc, or_low (f * 4096) 99 128 7 rfl (by decide) (by omega), or_slot _ s1 32768 32 15 5 rfl rfl h2 (by omega), or_slot _ s2 1048576 32 20 5 rfl rfl h3 (by omega), or_slot _ A 2147483648 2 31 1 rfl rfl hA (by omega), or_slot _ B 33554432 64 25 6 rfl rfl hB (by omega), or_slot _ C 256 16 8 4 rfl rfl hC (by omega), or_slot _ D 128 2 7 1 rfl rfl hD (by omega)]
theorem or_S (f s1 s2 A B : Nat) (hf : f < 8) (h2 : s1 < 32) (h3 : s2 < 32) (hA : A < 128) (hB : B < 32) :
    (f * 4096 ||| 35) ||| (((s1 * 32768 ||| s2 * 1048576) ||| A * 33554432) ||| B * 128) = f * 4096 + 35 + s1 * 32768 + s2 * 1048576 + A * 33554432 + B * 128 := by
  rw [← Nat.or_assoc, ← Nat.or_assoc, ← Nat.or_assoc, or_low (f * 4096) 35 128 7 rfl (by decide) (by omega), or_slot _ s1 32768 32 15 5 rfl rfl h2 (by omega), or_slot _ s2 1048576 32 20 5 rfl rfl h3 (by omega), or_slot _ A 33554432 128 25 7 rfl rfl hA (by omega), or_slot _ B 128 32 7 5 rfl rfl hB (by omega)]
theorem or_head (f u op : Nat) (hf : f < 8) (hu : u < 128) (h0 : op < 128) : (f * 4096 ||| u * 33554432) ||| op = f * 4096 + u * 33554432 + op := by
  rw [or_slot _ u 33554432 128 25 7 rfl rfl hu (by omega), or_low _ op 128 7 rfl h0 (by omega)]
theorem or_R (f u op rd s1 s2 : Nat) (hf : f < 8) (hu : u < 128) (h0 : op < 128) (h1 : rd < 32) (h2 : s1 < 32) (h3 : s2 < 32) :
    ((f * 4096 ||| u * 33554432) ||| op) ||| ((rd * 128 ||| s1 * 32768) ||| s2 * 1048576) = f * 4096 + u * 33554432 + op + rd * 128 + s1 * 32768 + s2 * 1048576 := by
  rw [or_head f u op hf hu h0, ← Nat.or_assoc, ← Nat.or_assoc, or_slot _ rd 128 32 7 5 rfl rfl h1 (by omega), or_slot _ s1 32768 32 15 5 rfl rfl h2 (by omega), or_slot _ s2 1048576 32 20 5 rfl rfl h3 (by omega)]
theorem or_Sh (f u op rd s1 i : Nat) (hf : f < 8) (hu : u = 0 ∨ u = 32) (h0 : op < 128) (h1 : rd < 32) (h2 : s1 < 32) (h3 : i < 64) :
    ((f * 4096 ||| u * 33554432) ||| op) ||| ((rd * 128 ||| s1 * 32768) ||| i * 1048576) = f * 4096 + u * 33554432 + op + rd * 128 + s1 * 32768 + i * 1048576 := by
  rw [or_head f u op hf (by omega) h0, ← Nat.or_assoc, ← Nat.or_assoc, or_slot _ rd 128 32 7 5 rfl rfl h1 (by omega), or_slot _ s1 32768 32 15 5 rfl rfl h2 (by omega), or_slot _ i 1048576 64 20 6 rfl rfl h3 (by omega)]
theorem or_I3 (f op rd s1 i : Nat) (hf : f < 8) (h0 : op < 128) (h1 : rd < 32) (h2 : s1 < 32) (h3 : i < 4096) :
    ((f * 4096 ||| 0 * 33554432) ||| op) ||| ((rd * 128 ||| s1 * 32768) ||| i * 1048576) = f * 4096 + op + rd * 128 + s1 * 32768 + i * 1048576 := by
  rw [Nat.zero_mul, Nat.or_zero]
  exact or_I f op rd s1 i hf h0 h1 h2 h3
theorem or_A (q v rd s1 s2 : Nat) (hq : q < 32) (hv : v = 8192 ∨ v = 12288) (h1 : rd < 32) (h2 : s1 < 32) (h3 : s2 < 32) :
    ((q * 134217728 ||| v) ||| 47) ||| ((rd * 128 ||| s1 * 32768) ||| s2 * 1048576) = q * 134217728 + v + 47 + rd * 128 + s1 * 32768 + s2 * 1048576 := by
  rw [or_low (q * 134217728) v 134217728 27 rfl (by omega) (by omega), or_low _ 47 128 7 rfl (by decide) (by omega), ← Nat.or_assoc, ← Nat.or_assoc, or_slot _ rd 128 32 7 5 rfl rfl h1 (by omega), or_slot _ s1 32768 32 15 5 rfl rfl h2 (by omega), or_slot _ s2 1048576 32 20 5 rfl rfl h3 (by omega)]
theorem or_F (s1 s2 : Nat) (h2 : s1 < 32) (h3 : s2 < 32) : 301990003 ||| (s1 * 32768 ||| s2 * 1048576) = 301990003 + s1 * 32768 + s2 * 1048576 := by
  rw [← Nat.or_assoc, or_slot 301990003 s1 32768 32 15 5 rfl rfl h2 (by decide), or_slot _ s2 1048576 32 20 5 rfl rfl h3 (by omega)]

/-! Fields of immediates with their sign. -/
theorem m32 (X : Nat) (h : X < 1048576) : fN (sxN (X * 4096) 32) 31 12 = X := by
  rw [sx32 _ (by omega)]
  have : ∀ m : Nat, fN m 31 12 = m / 4096 % 1048576 := fun m => by simp [fN]
  rw [this]
  split <;> omega
theorem m12 (y : Nat) (h : y < 4096) : fN (sxN y 12) 11 0 = y := by
  rw [sx12 _ h]
  have : ∀ m : Nat, fN m 11 0 = m % 4096 := fun m => by simp [fN]
  rw [this]
  split <;> omega
theorem m12s (A B : Nat) (hA : A < 128) (hB : B < 32) : fN (sxN (A * 32 + B) 12) 11 5 = A ∧ fN (sxN (A * 32 + B) 12) 4 0 = B := by
  rw [sx12 _ (by omega)]
  have e1 : ∀ m : Nat, fN m 11 5 = m / 32 % 128 := fun m => by simp [fN]
  have e2 : ∀ m : Nat, fN m 4 0 = m % 32 := fun m => by simp [fN]
  rw [e1, e2]
  constructor <;> split <;> omega
theorem m13 (A B C D : Nat) (hA : A < 2) (hB : B < 64) (hC : C < 16) (hD : D < 2) (m : Nat) (hm : m = sxN (A * 4096 + B * 32 + C * 2 + D * 2048) 13) :
    fN m 12 12 = A ∧ fN m 10 5 = B ∧ fN m 4 1 = C ∧ fN m 11 11 = D := by
  rw [sx13 _ (by omega)] at hm
  have e1 : fN m 12 12 = m / 4096 % 2 := by simp [fN]
  have e2 : fN m 10 5 = m / 32 % 64 := by simp [fN]
  have e3 : fN m 4 1 = m / 2 % 16 := by simp [fN]
  have e4 : fN m 11 11 = m / 2048 % 2 := by simp [fN]
  rw [e1, e2, e3, e4]
  split at hm <;> (refine ⟨?_, ?_, ?_, ?_⟩ <;> omega)
theorem m21 (A B C D : Nat) (hA : A < 2) (hB : B < 1024) (hC : C < 2) (hD : D < 256) (m : Nat) (hm : m = sxN (A * 1048576 + B * 2 + C * 2048 + D * 4096) 21) :
    fN m 20 20 = A ∧ fN m 10 1 = B ∧ fN m 11 11 = C ∧ fN m 19 12 = D := by
  rw [sx21 _ (by omega)] at hm
  have e1 : fN m 20 20 = m / 1048576 % 2 := by simp [fN]
  have e2 : fN m 10 1 = m / 2 % 1024 := by simp [fN]
  have e3 : fN m 11 11 = m / 2048 % 2 := by simp [fN]
  have e4 : fN m 19 12 = m / 4096 % 256 := by simp [fN]
  rw [e1, e2, e3, e4]
  split at hm <;> (refine ⟨?_, ?_, ?_, ?_⟩ <;> omega)
end Go.Proofs.Ytgekmhcekkmdhaa
