/-
  Plain numbers: of what is taken apart, the document's word and package decode's are one.
-/
import Derived.Test.YtgekmhcekkmdhaaDecPb
set_option linter.unusedVariables false
set_option linter.unusedSimpArgs false
namespace Go.Proofs.Ytgekmhcekkmdhaa
open Go Go.RowKit

theorem put_sum (op k hi rd s1 s2 : Nat) (h1 : op < 128) (h2 : k < 8) (h3 : hi < 128) (h4 : rd < 32) (h5 : s1 < 32) (h6 : s2 < 32) : putN op k hi rd s1 s2 = hi * 33554432 + s2 * 1048576 + s1 * 32768 + k * 4096 + rd * 128 + op := by
  unfold putN
  rw [or_slot _ s2 1048576 32 20 5 rfl rfl h6 (by omega), or_slot _ s1 32768 32 15 5 rfl rfl h5 (by omega), or_slot _ k 4096 8 12 3 rfl rfl h2 (by omega), or_slot _ rd 128 32 7 5 rfl rfl h4 (by omega), or_low _ op 128 7 rfl h1 (by omega)]
def Wd (x : Nat) (k : Kd) : Prop := ∃ M : Nat, immN (shp k.c k.f) x = M ∧ wdN k.c k.f k.d (regN (shp k.c k.f).rd x 11 7) (regN (shp k.c k.f).rs1 x 19 15) (regN (shp k.c k.f).rs2 x 24 20) M = x
def Same (x : Nat) : Prop := ∃ M : Nat, (decI x).m = M ∧ M < 18446744073709551616 ∧ wdN (decI x).c (decI x).f (decI x).d (decI x).r1.toNat (decI x).r2.toNat (decI x).r3.toNat M = encN (decI x).c (decI x).f (decI x).d (decI x).r1 (decI x).r2 (decI x).r3 M
theorem Same.of {x : Nat} {k : Kd} (hk : kOf x = k) (h : Enc x k) (h' : Wd x k) : Same x := by
  obtain ⟨M, h1, h2, h3⟩ := h
  obtain ⟨M', h4, h5⟩ := h'
  have e : M' = M := by omega
  subst hk
  subst e
  exact ⟨M', h1, h2, h5.trans h3.symm⟩
theorem fl_nat (n : Nat) (k : Nat) (h : n < k) : flN (n : Int) k = n := by
  show ((n : Int) % (k : Int)).toNat = n
  rw [Int.emod_eq_of_lt (by omega) (by omega)]
  rfl
theorem fl_32 (n : Nat) (h : n < 32) : flN (n : Int) 32 = n := fl_nat n 32 h
theorem fl_8 (n : Nat) (h : n < 8) : flN (n : Int) 8 = n := fl_nat n 8 h
theorem e_31_12 (m : Nat) : fN m 31 12 = m / 4096 % 1048576 := by simp [fN]
theorem e_11_0 (m : Nat) : fN m 11 0 = m % 4096 := by simp [fN]
theorem e_11_5 (m : Nat) : fN m 11 5 = m / 32 % 128 := by simp [fN]
theorem e_4_0 (m : Nat) : fN m 4 0 = m % 32 := by simp [fN]
theorem imm_i (x : Nat) : sextV (orK x [⟨31, 20, 0⟩] 1 : Nat) 12 = (sxN (fN x 31 20) 12 : Nat) := by rw [or_i, sxN_sext _ 12 (by decide) (by decide)]
theorem i12_of (x : Nat) (hx : x < 4294967296) : i12N (sxN (fN x 31 20) 12) = fN x 31 20 * 1048576 := by
  have h := m12 (fN x 31 20) (by rw [f_31_20 x hx]; omega)
  rw [e_11_0] at h
  unfold i12N
  rw [h]
theorem wN_1 (f : Int) (d : Bool) (rd s1 s2 m : Nat) : wdN 1 f d rd s1 s2 m = putN 55 0 0 rd s1 s2 ||| m / 4096 % 1048576 * 4096 := by simp [wdN]
theorem wN_2 (f : Int) (d : Bool) (rd s1 s2 m : Nat) : wdN 2 f d rd s1 s2 m = putN 23 0 0 rd s1 s2 ||| m / 4096 % 1048576 * 4096 := by simp [wdN]
theorem wN_3 (f : Int) (d : Bool) (rd s1 s2 m : Nat) : wdN 3 f d rd s1 s2 m = putN 111 0 0 rd s1 s2 ||| jmpN m := by simp [wdN]
theorem wN_4 (f : Int) (d : Bool) (rd s1 s2 m : Nat) : wdN 4 f d rd s1 s2 m = putN 103 0 0 rd s1 s2 ||| i12N m := by simp [wdN]
theorem wN_5 (f : Int) (d : Bool) (rd s1 s2 m : Nat) : wdN 5 f d rd s1 s2 m = putN 99 (flN f 32) 0 rd s1 s2 ||| brcN m := by simp [wdN]
theorem wN_6 (f : Int) (d : Bool) (rd s1 s2 m : Nat) : wdN 6 f d rd s1 s2 m = putN 3 (flN f 32) 0 rd s1 s2 ||| i12N m := by simp [wdN]
theorem wN_7 (f : Int) (d : Bool) (rd s1 s2 m : Nat) : wdN 7 f d rd s1 s2 m = putN 35 (flN f 32) (m / 32 % 128) rd s1 s2 ||| m % 32 * 128 := by simp [wdN]
theorem wN_9 (f : Int) (d : Bool) (rd s1 s2 m : Nat) : wdN 9 f d rd s1 s2 m = sumN f d rd s1 s2 := by simp [wdN]
theorem wN_12 (f : Int) (d : Bool) (rd s1 s2 m : Nat) : wdN 12 f d rd s1 s2 m = putN 115 (flN f 32) 0 rd s1 s2 ||| i12N m := by simp [wdN]
theorem wN_11 (d : Bool) (rd s1 s2 m : Nat) : wdN 11 5 d rd s1 s2 m = putN 115 0 9 rd s1 s2 := by simp [wdN]
theorem wdU_1 (x : Nat) (hx : x < 4294967296) (ho : fN x 6 0 = 55) : Wd x ⟨1, 0, false⟩ := by
  have l1 := rd_lt x
  have l2 := rs1_lt x
  have l3 := rs2_lt x
  have l4 := f3_lt x
  have b31_12 := fN_lt x 31 12 1048576 (by decide)
  have b31_31 := fN_lt x 31 31 2 (by decide)
  have b30_21 := fN_lt x 30 21 1024 (by decide)
  have b20_20 := fN_lt x 20 20 2 (by decide)
  have b19_12 := fN_lt x 19 12 256 (by decide)
  have b30_25 := fN_lt x 30 25 64 (by decide)
  have b11_8 := fN_lt x 11 8 16 (by decide)
  have b7_7 := fN_lt x 7 7 2 (by decide)
  have b31_20 := fN_lt x 31 20 4096 (by decide)
  have b31_25 := fN_lt x 31 25 128 (by decide)
  have b25_20 := fN_lt x 25 20 64 (by decide)
  have b6_0 := fN_lt x 6 0 128 (by decide)
  unfold Wd
  show ∃ M : Nat, immN (shp 1 0) x = M ∧ wdN 1 0 false (regN (shp 1 0).rd x 11 7) (regN (shp 1 0).rs1 x 19 15) (regN (shp 1 0).rs2 x 24 20) M = x
  rw [show shp 1 0 = ⟨true, false, false, [⟨31, 12, 12⟩], 32⟩ by simp [shp]]
  refine ⟨sxN (fN x 31 12 * 4096) 32, ?_, ?_⟩
  · show sextV (orK x [⟨31, 12, 12⟩] 1 : Nat) 32 = _; rw [or_lui, sxN_sext _ 32 (by decide) (by decide)]
  show wdN 1 0 false (fN x 11 7) 0 0 _ = x
  rw [wN_1]
  have h := m32 (fN x 31 12) b31_12
  rw [e_31_12] at h
  rw [h, put_sum _ _ _ _ _ _ (by decide) (by decide) (by decide) l1 (by decide) (by decide), or_slot _ (fN x 31 12) 4096 1048576 12 20 rfl rfl b31_12 (by omega)]
  clear l1 l2 l3 l4 b31_12 b31_31 b30_21 b20_20 b19_12 b30_25 b11_8 b7_7 b31_20 b31_25 b25_20 b6_0
  have a60 := f_6_0 x
  have a117 := f_11_7 x
  have a3112 := f_31_12 x hx
  omega
theorem wdU_2 (x : Nat) (hx : x < 4294967296) (ho : fN x 6 0 = 23) : Wd x ⟨2, 0, false⟩ := by
  have l1 := rd_lt x
  have l2 := rs1_lt x
  have l3 := rs2_lt x
  have l4 := f3_lt x
  have b31_12 := fN_lt x 31 12 1048576 (by decide)
  have b31_31 := fN_lt x 31 31 2 (by decide)
  have b30_21 := fN_lt x 30 21 1024 (by decide)
  have b20_20 := fN_lt x 20 20 2 (by decide)
  have b19_12 := fN_lt x 19 12 256 (by decide)
  have b30_25 := fN_lt x 30 25 64 (by decide)
  have b11_8 := fN_lt x 11 8 16 (by decide)
  have b7_7 := fN_lt x 7 7 2 (by decide)
  have b31_20 := fN_lt x 31 20 4096 (by decide)
  have b31_25 := fN_lt x 31 25 128 (by decide)
  have b25_20 := fN_lt x 25 20 64 (by decide)
  have b6_0 := fN_lt x 6 0 128 (by decide)
  unfold Wd
  show ∃ M : Nat, immN (shp 2 0) x = M ∧ wdN 2 0 false (regN (shp 2 0).rd x 11 7) (regN (shp 2 0).rs1 x 19 15) (regN (shp 2 0).rs2 x 24 20) M = x
  rw [show shp 2 0 = ⟨true, false, false, [⟨31, 12, 12⟩], 32⟩ by simp [shp]]
  refine ⟨sxN (fN x 31 12 * 4096) 32, ?_, ?_⟩
  · show sextV (orK x [⟨31, 12, 12⟩] 1 : Nat) 32 = _; rw [or_lui, sxN_sext _ 32 (by decide) (by decide)]
  show wdN 2 0 false (fN x 11 7) 0 0 _ = x
  rw [wN_2]
  have h := m32 (fN x 31 12) b31_12
  rw [e_31_12] at h
  rw [h, put_sum _ _ _ _ _ _ (by decide) (by decide) (by decide) l1 (by decide) (by decide), or_slot _ (fN x 31 12) 4096 1048576 12 20 rfl rfl b31_12 (by omega)]
  clear l1 l2 l3 l4 b31_12 b31_31 b30_21 b20_20 b19_12 b30_25 b11_8 b7_7 b31_20 b31_25 b25_20 b6_0
  have a60 := f_6_0 x
  have a117 := f_11_7 x
  have a3112 := f_31_12 x hx
  omega
theorem wdJ (x : Nat) (hx : x < 4294967296) (ho : fN x 6 0 = 111) : Wd x ⟨3, 0, false⟩ := by
  have l1 := rd_lt x
  have l2 := rs1_lt x
  have l3 := rs2_lt x
  have l4 := f3_lt x
  have b31_12 := fN_lt x 31 12 1048576 (by decide)
  have b31_31 := fN_lt x 31 31 2 (by decide)
  have b30_21 := fN_lt x 30 21 1024 (by decide)
  have b20_20 := fN_lt x 20 20 2 (by decide)
  have b19_12 := fN_lt x 19 12 256 (by decide)
  have b30_25 := fN_lt x 30 25 64 (by decide)
  have b11_8 := fN_lt x 11 8 16 (by decide)
  have b7_7 := fN_lt x 7 7 2 (by decide)
  have b31_20 := fN_lt x 31 20 4096 (by decide)
  have b31_25 := fN_lt x 31 25 128 (by decide)
  have b25_20 := fN_lt x 25 20 64 (by decide)
  have b6_0 := fN_lt x 6 0 128 (by decide)
  unfold Wd
  show ∃ M : Nat, immN (shp 3 0) x = M ∧ wdN 3 0 false (regN (shp 3 0).rd x 11 7) (regN (shp 3 0).rs1 x 19 15) (regN (shp 3 0).rs2 x 24 20) M = x
  rw [show shp 3 0 = ⟨true, false, false, [⟨31, 31, 20⟩, ⟨30, 21, 1⟩, ⟨20, 20, 11⟩, ⟨19, 12, 12⟩], 21⟩ by simp [shp]]
  refine ⟨sxN (fN x 31 31 * 1048576 + fN x 30 21 * 2 + fN x 20 20 * 2048 + fN x 19 12 * 4096) 21, ?_, ?_⟩
  · show sextV (orK x [⟨31, 31, 20⟩, ⟨30, 21, 1⟩, ⟨20, 20, 11⟩, ⟨19, 12, 12⟩] 4 : Nat) 21 = _; rw [or_j x hx, ← f_31_31 x hx, ← f_30_21, ← f_20_20, ← f_19_12, sxN_sext _ 21 (by decide) (by decide)]
  show wdN 3 0 false (fN x 11 7) 0 0 _ = x
  rw [wN_3]
  obtain ⟨m, hm⟩ : ∃ m, m = sxN (fN x 31 31 * 1048576 + fN x 30 21 * 2 + fN x 20 20 * 2048 + fN x 19 12 * 4096) 21 := ⟨_, rfl⟩
  obtain ⟨d1, d2, d3, d4⟩ := m21 _ _ _ _ b31_31 b30_21 b20_20 b19_12 m hm
  rw [← hm]
  unfold jmpN
  rw [show m / 1048576 % 2 = fN x 31 31 by rw [← d1]; simp [fN], show m / 2 % 1024 = fN x 30 21 by rw [← d2]; simp [fN], show m / 2048 % 2 = fN x 20 20 by rw [← d3]; simp [fN], show m / 4096 % 256 = fN x 19 12 by rw [← d4]; simp [fN]]
  rw [or_slot _ (fN x 30 21) 2097152 1024 21 10 rfl rfl (by omega) (by omega), or_slot _ (fN x 20 20) 1048576 2 20 1 rfl rfl (by omega) (by omega), or_slot _ (fN x 19 12) 4096 256 12 8 rfl rfl (by omega) (by omega)]
  rw [put_sum _ _ _ _ _ _ (by decide) (by decide) (by decide) l1 (by decide) (by decide)]
  rw [show fN x 31 31 * 2147483648 + fN x 30 21 * 2097152 + fN x 20 20 * 1048576 + fN x 19 12 * 4096 = (fN x 31 31 * 524288 + fN x 30 21 * 512 + fN x 20 20 * 256 + fN x 19 12) * 4096 by omega]
  rw [or_slot _ (fN x 31 31 * 524288 + fN x 30 21 * 512 + fN x 20 20 * 256 + fN x 19 12) 4096 1048576 12 20 rfl rfl (by omega) (by omega)]
  clear d1 d2 d3 d4 hm
  clear l1 l2 l3 l4 b31_12 b31_31 b30_21 b20_20 b19_12 b30_25 b11_8 b7_7 b31_20 b31_25 b25_20 b6_0
  have a60 := f_6_0 x
  have a117 := f_11_7 x
  have a3131 := f_31_31 x hx
  have a3021 := f_30_21 x
  have a2020 := f_20_20 x
  have a1912 := f_19_12 x
  omega
theorem wdJr (x : Nat) (hx : x < 4294967296) (ho : fN x 6 0 = 103) (hf : fN x 14 12 = 0) : Wd x ⟨4, 0, false⟩ := by
  have l1 := rd_lt x
  have l2 := rs1_lt x
  have l3 := rs2_lt x
  have l4 := f3_lt x
  have b31_12 := fN_lt x 31 12 1048576 (by decide)
  have b31_31 := fN_lt x 31 31 2 (by decide)
  have b30_21 := fN_lt x 30 21 1024 (by decide)
  have b20_20 := fN_lt x 20 20 2 (by decide)
  have b19_12 := fN_lt x 19 12 256 (by decide)
  have b30_25 := fN_lt x 30 25 64 (by decide)
  have b11_8 := fN_lt x 11 8 16 (by decide)
  have b7_7 := fN_lt x 7 7 2 (by decide)
  have b31_20 := fN_lt x 31 20 4096 (by decide)
  have b31_25 := fN_lt x 31 25 128 (by decide)
  have b25_20 := fN_lt x 25 20 64 (by decide)
  have b6_0 := fN_lt x 6 0 128 (by decide)
  unfold Wd
  show ∃ M : Nat, immN (shp 4 0) x = M ∧ wdN 4 0 false (regN (shp 4 0).rd x 11 7) (regN (shp 4 0).rs1 x 19 15) (regN (shp 4 0).rs2 x 24 20) M = x
  rw [show shp 4 0 = tw 12 by simp [shp]]
  refine ⟨sxN (fN x 31 20) 12, ?_, ?_⟩
  · exact imm_i x
  show wdN 4 0 false (fN x 11 7) (fN x 19 15) 0 _ = x
  rw [wN_4]
  rw [i12_of x hx, put_sum _ _ _ _ _ _ (by decide) (by decide) (by decide) l1 l2 (by decide), or_slot _ (fN x 31 20) 1048576 4096 20 12 rfl rfl b31_20 (by omega)]
  clear l1 l2 l3 l4 b31_12 b31_31 b30_21 b20_20 b19_12 b30_25 b11_8 b7_7 b31_20 b31_25 b25_20 b6_0
  have a60 := f_6_0 x
  have a117 := f_11_7 x
  have a1412 := f_14_12 x
  have a1915 := f_19_15 x
  have a3120 := f_31_20 x hx
  omega
theorem wdB (x : Nat) (hx : x < 4294967296) (ho : fN x 6 0 = 99) : Wd x ⟨5, (fN x 14 12 : Nat), false⟩ := by
  have l1 := rd_lt x
  have l2 := rs1_lt x
  have l3 := rs2_lt x
  have l4 := f3_lt x
  have b31_12 := fN_lt x 31 12 1048576 (by decide)
  have b31_31 := fN_lt x 31 31 2 (by decide)
  have b30_21 := fN_lt x 30 21 1024 (by decide)
  have b20_20 := fN_lt x 20 20 2 (by decide)
  have b19_12 := fN_lt x 19 12 256 (by decide)
  have b30_25 := fN_lt x 30 25 64 (by decide)
  have b11_8 := fN_lt x 11 8 16 (by decide)
  have b7_7 := fN_lt x 7 7 2 (by decide)
  have b31_20 := fN_lt x 31 20 4096 (by decide)
  have b31_25 := fN_lt x 31 25 128 (by decide)
  have b25_20 := fN_lt x 25 20 64 (by decide)
  have b6_0 := fN_lt x 6 0 128 (by decide)
  unfold Wd
  show ∃ M : Nat, immN (shp 5 (fN x 14 12 : Nat)) x = M ∧ wdN 5 (fN x 14 12 : Nat) false (regN (shp 5 (fN x 14 12 : Nat)).rd x 11 7) (regN (shp 5 (fN x 14 12 : Nat)).rs1 x 19 15) (regN (shp 5 (fN x 14 12 : Nat)).rs2 x 24 20) M = x
  rw [show shp 5 (fN x 14 12 : Nat) = ⟨false, true, true, [⟨31, 31, 12⟩, ⟨30, 25, 5⟩, ⟨11, 8, 1⟩, ⟨7, 7, 11⟩], 13⟩ by simp [shp]]
  refine ⟨sxN (fN x 31 31 * 4096 + fN x 30 25 * 32 + fN x 11 8 * 2 + fN x 7 7 * 2048) 13, ?_, ?_⟩
  · show sextV (orK x [⟨31, 31, 12⟩, ⟨30, 25, 5⟩, ⟨11, 8, 1⟩, ⟨7, 7, 11⟩] 4 : Nat) 13 = _; rw [or_b x hx, ← f_31_31 x hx, ← f_30_25, ← f_11_8, ← f_7_7, sxN_sext _ 13 (by decide) (by decide)]
  show wdN 5 (fN x 14 12 : Nat) false 0 (fN x 19 15) (fN x 24 20) _ = x
  rw [wN_5]
  obtain ⟨m, hm⟩ : ∃ m, m = sxN (fN x 31 31 * 4096 + fN x 30 25 * 32 + fN x 11 8 * 2 + fN x 7 7 * 2048) 13 := ⟨_, rfl⟩
  obtain ⟨d1, d2, d3, d4⟩ := m13 _ _ _ _ b31_31 b30_25 b11_8 b7_7 m hm
  rw [← hm, fl_32 _ (by omega)]
  unfold brcN
  rw [show m / 4096 % 2 = fN x 31 31 by rw [← d1]; simp [fN], show m / 32 % 64 = fN x 30 25 by rw [← d2]; simp [fN], show m / 2 % 16 = fN x 11 8 by rw [← d3]; simp [fN], show m / 2048 % 2 = fN x 7 7 by rw [← d4]; simp [fN]]
  rw [put_sum _ _ _ _ _ _ (by decide) l4 (by decide) (by decide) l2 l3, ← Nat.or_assoc, ← Nat.or_assoc, ← Nat.or_assoc]
  rw [or_slot _ (fN x 31 31) 2147483648 2 31 1 rfl rfl (by omega) (by omega), or_slot _ (fN x 30 25) 33554432 64 25 6 rfl rfl (by omega) (by omega), or_slot _ (fN x 11 8) 256 16 8 4 rfl rfl (by omega) (by omega), or_slot _ (fN x 7 7) 128 2 7 1 rfl rfl (by omega) (by omega)]
  clear d1 d2 d3 d4 hm
  clear l1 l2 l3 l4 b31_12 b31_31 b30_21 b20_20 b19_12 b30_25 b11_8 b7_7 b31_20 b31_25 b25_20 b6_0
  have a60 := f_6_0 x
  have a1412 := f_14_12 x
  have a1915 := f_19_15 x
  have a2420 := f_24_20 x
  have a3131 := f_31_31 x hx
  have a3025 := f_30_25 x
  have a118 := f_11_8 x
  have a77 := f_7_7 x
  omega
theorem wdL (x : Nat) (hx : x < 4294967296) (ho : fN x 6 0 = 3) : Wd x ⟨6, (fN x 14 12 : Nat), false⟩ := by
  have l1 := rd_lt x
  have l2 := rs1_lt x
  have l3 := rs2_lt x
  have l4 := f3_lt x
  have b31_12 := fN_lt x 31 12 1048576 (by decide)
  have b31_31 := fN_lt x 31 31 2 (by decide)
  have b30_21 := fN_lt x 30 21 1024 (by decide)
  have b20_20 := fN_lt x 20 20 2 (by decide)
  have b19_12 := fN_lt x 19 12 256 (by decide)
  have b30_25 := fN_lt x 30 25 64 (by decide)
  have b11_8 := fN_lt x 11 8 16 (by decide)
  have b7_7 := fN_lt x 7 7 2 (by decide)
  have b31_20 := fN_lt x 31 20 4096 (by decide)
  have b31_25 := fN_lt x 31 25 128 (by decide)
  have b25_20 := fN_lt x 25 20 64 (by decide)
  have b6_0 := fN_lt x 6 0 128 (by decide)
  unfold Wd
  show ∃ M : Nat, immN (shp 6 (fN x 14 12 : Nat)) x = M ∧ wdN 6 (fN x 14 12 : Nat) false (regN (shp 6 (fN x 14 12 : Nat)).rd x 11 7) (regN (shp 6 (fN x 14 12 : Nat)).rs1 x 19 15) (regN (shp 6 (fN x 14 12 : Nat)).rs2 x 24 20) M = x
  rw [show shp 6 (fN x 14 12 : Nat) = tw 12 by simp [shp]]
  refine ⟨sxN (fN x 31 20) 12, ?_, ?_⟩
  · exact imm_i x
  show wdN 6 (fN x 14 12 : Nat) false (fN x 11 7) (fN x 19 15) 0 _ = x
  rw [wN_6]
  rw [i12_of x hx, fl_32 _ (by omega), put_sum _ _ _ _ _ _ (by decide) l4 (by decide) l1 l2 (by decide), or_slot _ (fN x 31 20) 1048576 4096 20 12 rfl rfl b31_20 (by omega)]
  clear l1 l2 l3 l4 b31_12 b31_31 b30_21 b20_20 b19_12 b30_25 b11_8 b7_7 b31_20 b31_25 b25_20 b6_0
  have a60 := f_6_0 x
  have a117 := f_11_7 x
  have a1412 := f_14_12 x
  have a1915 := f_19_15 x
  have a3120 := f_31_20 x hx
  omega
theorem wdS (x : Nat) (hx : x < 4294967296) (ho : fN x 6 0 = 35) : Wd x ⟨7, (fN x 14 12 : Nat), false⟩ := by
  have l1 := rd_lt x
  have l2 := rs1_lt x
  have l3 := rs2_lt x
  have l4 := f3_lt x
  have b31_12 := fN_lt x 31 12 1048576 (by decide)
  have b31_31 := fN_lt x 31 31 2 (by decide)
  have b30_21 := fN_lt x 30 21 1024 (by decide)
  have b20_20 := fN_lt x 20 20 2 (by decide)
  have b19_12 := fN_lt x 19 12 256 (by decide)
  have b30_25 := fN_lt x 30 25 64 (by decide)
  have b11_8 := fN_lt x 11 8 16 (by decide)
  have b7_7 := fN_lt x 7 7 2 (by decide)
  have b31_20 := fN_lt x 31 20 4096 (by decide)
  have b31_25 := fN_lt x 31 25 128 (by decide)
  have b25_20 := fN_lt x 25 20 64 (by decide)
  have b6_0 := fN_lt x 6 0 128 (by decide)
  unfold Wd
  show ∃ M : Nat, immN (shp 7 (fN x 14 12 : Nat)) x = M ∧ wdN 7 (fN x 14 12 : Nat) false (regN (shp 7 (fN x 14 12 : Nat)).rd x 11 7) (regN (shp 7 (fN x 14 12 : Nat)).rs1 x 19 15) (regN (shp 7 (fN x 14 12 : Nat)).rs2 x 24 20) M = x
  rw [show shp 7 (fN x 14 12 : Nat) = ⟨false, true, true, [⟨31, 25, 5⟩, ⟨11, 7, 0⟩], 12⟩ by simp [shp]]
  refine ⟨sxN (fN x 31 25 * 32 + fN x 11 7) 12, ?_, ?_⟩
  · show sextV (orK x [⟨31, 25, 5⟩, ⟨11, 7, 0⟩] 2 : Nat) 12 = _; rw [or_s x hx, ← f_31_25 x hx, ← f_11_7, sxN_sext _ 12 (by decide) (by decide)]
  show wdN 7 (fN x 14 12 : Nat) false 0 (fN x 19 15) (fN x 24 20) _ = x
  rw [wN_7]
  obtain ⟨h1, h2⟩ := m12s (fN x 31 25) (fN x 11 7) b31_25 l1
  rw [e_11_5] at h1
  rw [e_4_0] at h2
  rw [h1, h2, fl_32 _ (by omega), put_sum _ _ _ _ _ _ (by decide) l4 (by omega) (by decide) l2 l3, or_slot _ (fN x 11 7) 128 32 7 5 rfl rfl l1 (by omega)]
  clear h1 h2
  clear l1 l2 l3 l4 b31_12 b31_31 b30_21 b20_20 b19_12 b30_25 b11_8 b7_7 b31_20 b31_25 b25_20 b6_0
  have a60 := f_6_0 x
  have a117 := f_11_7 x
  have a1412 := f_14_12 x
  have a1915 := f_19_15 x
  have a2420 := f_24_20 x
  have a3125 := f_31_25 x hx
  omega
theorem wdC (x : Nat) (hx : x < 4294967296) (ho : fN x 6 0 = 115) : Wd x ⟨12, (fN x 14 12 : Nat), false⟩ := by
  have l1 := rd_lt x
  have l2 := rs1_lt x
  have l3 := rs2_lt x
  have l4 := f3_lt x
  have b31_12 := fN_lt x 31 12 1048576 (by decide)
  have b31_31 := fN_lt x 31 31 2 (by decide)
  have b30_21 := fN_lt x 30 21 1024 (by decide)
  have b20_20 := fN_lt x 20 20 2 (by decide)
  have b19_12 := fN_lt x 19 12 256 (by decide)
  have b30_25 := fN_lt x 30 25 64 (by decide)
  have b11_8 := fN_lt x 11 8 16 (by decide)
  have b7_7 := fN_lt x 7 7 2 (by decide)
  have b31_20 := fN_lt x 31 20 4096 (by decide)
  have b31_25 := fN_lt x 31 25 128 (by decide)
  have b25_20 := fN_lt x 25 20 64 (by decide)
  have b6_0 := fN_lt x 6 0 128 (by decide)
  unfold Wd
  show ∃ M : Nat, immN (shp 12 (fN x 14 12 : Nat)) x = M ∧ wdN 12 (fN x 14 12 : Nat) false (regN (shp 12 (fN x 14 12 : Nat)).rd x 11 7) (regN (shp 12 (fN x 14 12 : Nat)).rs1 x 19 15) (regN (shp 12 (fN x 14 12 : Nat)).rs2 x 24 20) M = x
  rw [show shp 12 (fN x 14 12 : Nat) = tw 64 by simp [shp]]
  refine ⟨fN x 31 20, ?_, ?_⟩
  · show sextV (orK x [⟨31, 20, 0⟩] 1 : Nat) 64 = _; rw [or_i, sextV64]
  show wdN 12 (fN x 14 12 : Nat) false (fN x 11 7) (fN x 19 15) 0 _ = x
  rw [wN_12]
  unfold i12N
  rw [show fN x 31 20 % 4096 = fN x 31 20 by omega, fl_32 _ (by omega), put_sum _ _ _ _ _ _ (by decide) l4 (by decide) l1 l2 (by decide), or_slot _ (fN x 31 20) 1048576 4096 20 12 rfl rfl b31_20 (by omega)]
  clear l1 l2 l3 l4 b31_12 b31_31 b30_21 b20_20 b19_12 b30_25 b11_8 b7_7 b31_20 b31_25 b25_20 b6_0
  have a60 := f_6_0 x
  have a117 := f_11_7 x
  have a1412 := f_14_12 x
  have a1915 := f_19_15 x
  have a3120 := f_31_20 x hx
  omega
theorem shp8o (f : Int) (h1 : f ≠ 1) (h5 : f ≠ 5) (h13 : f ≠ 13) : shp 8 f = tw 12 := by
  unfold shp immShp
  simp [h1, h5, h13]
theorem shp8s (f : Int) (h : f = 1 ∨ f = 5 ∨ f = 13) : shp 8 f = ⟨true, true, false, [⟨25, 20, 0⟩], 64⟩ := by
  unfold shp immShp
  simp [h]
theorem sh_im (x : Nat) : sextV (orK x [⟨25, 20, 0⟩] 1 : Nat) 64 = (fN x 25 20 : Nat) := by rw [or_sh, sextV64]
theorem wd8i (x : Nat) (hx : x < 4294967296) (d : Bool) (ho : fN x 6 0 = if d then 27 else 19) (h1 : ¬ fN x 14 12 = 1) (h5 : ¬ fN x 14 12 = 5) : Wd x ⟨8, (fN x 14 12 : Nat), d⟩ := by
  have l1 := rd_lt x
  have l2 := rs1_lt x
  have l3 := rs2_lt x
  have l4 := f3_lt x
  have b31_12 := fN_lt x 31 12 1048576 (by decide)
  have b31_31 := fN_lt x 31 31 2 (by decide)
  have b30_21 := fN_lt x 30 21 1024 (by decide)
  have b20_20 := fN_lt x 20 20 2 (by decide)
  have b19_12 := fN_lt x 19 12 256 (by decide)
  have b30_25 := fN_lt x 30 25 64 (by decide)
  have b11_8 := fN_lt x 11 8 16 (by decide)
  have b7_7 := fN_lt x 7 7 2 (by decide)
  have b31_20 := fN_lt x 31 20 4096 (by decide)
  have b31_25 := fN_lt x 31 25 128 (by decide)
  have b25_20 := fN_lt x 25 20 64 (by decide)
  have b6_0 := fN_lt x 6 0 128 (by decide)
  have e := shp8o (fN x 14 12 : Nat) (by omega) (by omega) (by omega)
  unfold Wd
  show ∃ M : Nat, immN (shp 8 (fN x 14 12 : Nat)) x = M ∧ wdN 8 (fN x 14 12 : Nat) d (regN (shp 8 (fN x 14 12 : Nat)).rd x 11 7) (regN (shp 8 (fN x 14 12 : Nat)).rs1 x 19 15) (regN (shp 8 (fN x 14 12 : Nat)).rs2 x 24 20) M = x
  rw [e]
  refine ⟨sxN (fN x 31 20) 12, imm_i x, ?_⟩
  show wdN 8 (fN x 14 12 : Nat) d (fN x 11 7) (fN x 19 15) 0 _ = x
  rw [show wdN 8 (fN x 14 12 : Nat) d (fN x 11 7) (fN x 19 15) 0 (sxN (fN x 31 20) 12) = putN (if d then 27 else 19) (flN (fN x 14 12 : Nat) 32) 0 (fN x 11 7) (fN x 19 15) 0 ||| i12N (sxN (fN x 31 20) 12) by
    unfold wdN
    simp only [show ¬ ((8 : Int) = 1) by decide, show ¬ ((8 : Int) = 2) by decide, show ¬ ((8 : Int) = 3) by decide, show ¬ ((8 : Int) = 4) by decide, show ¬ ((8 : Int) = 5) by decide, show ¬ ((8 : Int) = 6) by decide, show ¬ ((8 : Int) = 7) by decide, if_false, if_true]
    rw [if_neg (by omega)]]
  rw [i12_of x hx, fl_32 _ (by omega), ← ho]
  rw [put_sum _ _ _ _ _ _ (by omega) l4 (by decide) l1 l2 (by decide), or_slot _ (fN x 31 20) 1048576 4096 20 12 rfl rfl b31_20 (by omega)]
  clear l1 l2 l3 l4 b31_12 b31_31 b30_21 b20_20 b19_12 b30_25 b11_8 b7_7 b31_20 b31_25 b25_20 b6_0
  have a60 := f_6_0 x
  have a117 := f_11_7 x
  have a1412 := f_14_12 x
  have a1915 := f_19_15 x
  have a3120 := f_31_20 x hx
  omega
theorem wd8s (x : Nat) (hx : x < 4294967296) (d : Bool) (ho : fN x 6 0 = if d then 27 else 19) (F : Int) (u : Nat) (hF : (F = 1 ∧ fN x 14 12 = 1 ∧ u = 0) ∨ (F = 5 ∧ fN x 14 12 = 5 ∧ u = 0) ∨ (F = 13 ∧ fN x 14 12 = 5 ∧ u = 32)) (hg : x / 67108864 = u / 2) : Wd x ⟨8, F, d⟩ := by
  have l1 := rd_lt x
  have l2 := rs1_lt x
  have l3 := rs2_lt x
  have l4 := f3_lt x
  have b31_12 := fN_lt x 31 12 1048576 (by decide)
  have b31_31 := fN_lt x 31 31 2 (by decide)
  have b30_21 := fN_lt x 30 21 1024 (by decide)
  have b20_20 := fN_lt x 20 20 2 (by decide)
  have b19_12 := fN_lt x 19 12 256 (by decide)
  have b30_25 := fN_lt x 30 25 64 (by decide)
  have b11_8 := fN_lt x 11 8 16 (by decide)
  have b7_7 := fN_lt x 7 7 2 (by decide)
  have b31_20 := fN_lt x 31 20 4096 (by decide)
  have b31_25 := fN_lt x 31 25 128 (by decide)
  have b25_20 := fN_lt x 25 20 64 (by decide)
  have b6_0 := fN_lt x 6 0 128 (by decide)
  have e := shp8s F (by omega)
  unfold Wd
  show ∃ M : Nat, immN (shp 8 F) x = M ∧ wdN 8 F d (regN (shp 8 F).rd x 11 7) (regN (shp 8 F).rs1 x 19 15) (regN (shp 8 F).rs2 x 24 20) M = x
  rw [e]
  refine ⟨fN x 25 20, sh_im x, ?_⟩
  show wdN 8 F d (fN x 11 7) (fN x 19 15) 0 _ = x
  obtain ⟨op, hop⟩ : ∃ op : Nat, op = if d then 27 else 19 := ⟨_, rfl⟩
  have hw : wdN 8 F d (fN x 11 7) (fN x 19 15) 0 (fN x 25 20) = (if F = 13 then putN op 5 32 (fN x 11 7) (fN x 19 15) 0 ||| fN x 25 20 % 64 * 1048576 else putN op (flN F 32) 0 (fN x 11 7) (fN x 19 15) 0 ||| i12N (fN x 25 20)) := by
    rw [hop]
    unfold wdN
    simp only [show ¬ ((8 : Int) = 1) by decide, show ¬ ((8 : Int) = 2) by decide, show ¬ ((8 : Int) = 3) by decide, show ¬ ((8 : Int) = 4) by decide, show ¬ ((8 : Int) = 5) by decide, show ¬ ((8 : Int) = 6) by decide, show ¬ ((8 : Int) = 7) by decide, if_false, if_true]
  rw [hw]
  rw [← hop] at ho
  have hl : op < 128 := by rw [hop]; split <;> decide
  rcases hF with ⟨rfl, hk, rfl⟩ | ⟨rfl, hk, rfl⟩ | ⟨rfl, hk, rfl⟩
  · rw [if_neg (by decide), show flN 1 32 = 1 by decide]
    unfold i12N
    rw [show fN x 25 20 % 4096 = fN x 25 20 by omega, put_sum _ _ _ _ _ _ hl (by decide) (by decide) l1 l2 (by decide), or_slot _ (fN x 25 20) 1048576 64 20 6 rfl rfl b25_20 (by omega)]
    clear l1 l2 l3 l4 b31_12 b31_31 b30_21 b20_20 b19_12 b30_25 b11_8 b7_7 b31_20 b31_25 b25_20 b6_0
    have a60 := f_6_0 x
    have a117 := f_11_7 x
    have a1412 := f_14_12 x
    have a1915 := f_19_15 x
    have a2520 := f_25_20 x
    omega
  · rw [if_neg (by decide), show flN 5 32 = 5 by decide]
    unfold i12N
    rw [show fN x 25 20 % 4096 = fN x 25 20 by omega, put_sum _ _ _ _ _ _ hl (by decide) (by decide) l1 l2 (by decide), or_slot _ (fN x 25 20) 1048576 64 20 6 rfl rfl b25_20 (by omega)]
    clear l1 l2 l3 l4 b31_12 b31_31 b30_21 b20_20 b19_12 b30_25 b11_8 b7_7 b31_20 b31_25 b25_20 b6_0
    have a60 := f_6_0 x
    have a117 := f_11_7 x
    have a1412 := f_14_12 x
    have a1915 := f_19_15 x
    have a2520 := f_25_20 x
    omega
  · rw [if_pos rfl, show fN x 25 20 % 64 = fN x 25 20 by omega, put_sum _ _ _ _ _ _ hl (by decide) (by decide) l1 l2 (by decide), or_slot _ (fN x 25 20) 1048576 64 20 6 rfl rfl b25_20 (by omega)]
    clear l1 l2 l3 l4 b31_12 b31_31 b30_21 b20_20 b19_12 b30_25 b11_8 b7_7 b31_20 b31_25 b25_20 b6_0
    have a60 := f_6_0 x
    have a117 := f_11_7 x
    have a1412 := f_14_12 x
    have a1915 := f_19_15 x
    have a2520 := f_25_20 x
    omega
theorem shp9' (f : Int) : shp 9 f = ⟨true, true, true, [], 0⟩ := by simp [shp]
theorem wd9 (x : Nat) (hx : x < 4294967296) (d : Bool) (ho : fN x 6 0 = if d then 59 else 51) (F : Int) (u : Nat) (hF : (F = (fN x 14 12 : Nat) ∧ u = 0) ∨ (F = (fN x 14 12 : Nat) + 8 ∧ u = 32 ∧ (fN x 14 12 = 0 ∨ fN x 14 12 = 5)) ∨ (F = (fN x 14 12 : Nat) + 16 ∧ u = 1)) (hg : fN x 31 25 = u) : Wd x ⟨9, F, d⟩ := by
  have l1 := rd_lt x
  have l2 := rs1_lt x
  have l3 := rs2_lt x
  have l4 := f3_lt x
  have b31_12 := fN_lt x 31 12 1048576 (by decide)
  have b31_31 := fN_lt x 31 31 2 (by decide)
  have b30_21 := fN_lt x 30 21 1024 (by decide)
  have b20_20 := fN_lt x 20 20 2 (by decide)
  have b19_12 := fN_lt x 19 12 256 (by decide)
  have b30_25 := fN_lt x 30 25 64 (by decide)
  have b11_8 := fN_lt x 11 8 16 (by decide)
  have b7_7 := fN_lt x 7 7 2 (by decide)
  have b31_20 := fN_lt x 31 20 4096 (by decide)
  have b31_25 := fN_lt x 31 25 128 (by decide)
  have b25_20 := fN_lt x 25 20 64 (by decide)
  have b6_0 := fN_lt x 6 0 128 (by decide)
  unfold Wd
  show ∃ M : Nat, immN (shp 9 F) x = M ∧ wdN 9 F d (regN (shp 9 F).rd x 11 7) (regN (shp 9 F).rs1 x 19 15) (regN (shp 9 F).rs2 x 24 20) M = x
  rw [shp9']
  refine ⟨0, by show sextV _ 0 = _; rw [sextV0]; rfl, ?_⟩
  show wdN 9 F d (fN x 11 7) (fN x 19 15) (fN x 24 20) _ = x
  rw [wN_9]
  have hop : opsN d = fN x 6 0 := by rw [ho]; rfl
  have hl : opsN d < 128 := by rw [hop]; omega
  have hq : flN F 8 = fN x 14 12 := by unfold flN; rcases hF with ⟨rfl, _⟩ | ⟨rfl, _⟩ | ⟨rfl, _⟩ <;> omega
  unfold sumN
  rw [hq]
  rcases hF with ⟨rfl, rfl⟩ | ⟨rfl, rfl, hk⟩ | ⟨rfl, rfl⟩
  · rw [if_neg (by omega), if_neg (by omega), put_sum _ _ _ _ _ _ hl l4 (by decide) l1 l2 l3]
    clear l1 l2 l3 l4 b31_12 b31_31 b30_21 b20_20 b19_12 b30_25 b11_8 b7_7 b31_20 b31_25 b25_20 b6_0
    have a60 := f_6_0 x
    have a117 := f_11_7 x
    have a1412 := f_14_12 x
    have a1915 := f_19_15 x
    have a2420 := f_24_20 x
    have a3125 := f_31_25 x hx
    omega
  · rw [if_neg (by omega), if_pos (by omega), put_sum _ _ _ _ _ _ hl l4 (by decide) l1 l2 l3]
    clear l1 l2 l3 l4 b31_12 b31_31 b30_21 b20_20 b19_12 b30_25 b11_8 b7_7 b31_20 b31_25 b25_20 b6_0
    have a60 := f_6_0 x
    have a117 := f_11_7 x
    have a1412 := f_14_12 x
    have a1915 := f_19_15 x
    have a2420 := f_24_20 x
    have a3125 := f_31_25 x hx
    omega
  · rw [if_pos (by omega), put_sum _ _ _ _ _ _ hl l4 (by decide) l1 l2 l3]
    clear l1 l2 l3 l4 b31_12 b31_31 b30_21 b20_20 b19_12 b30_25 b11_8 b7_7 b31_20 b31_25 b25_20 b6_0
    have a60 := f_6_0 x
    have a117 := f_11_7 x
    have a1412 := f_14_12 x
    have a1915 := f_19_15 x
    have a2420 := f_24_20 x
    have a3125 := f_31_25 x hx
    omega
theorem wd11s (x : Nat) (hx : x < 4294967296) (ho : fN x 6 0 = 115) (hf : fN x 14 12 = 0) (hg : fN x 31 25 = 9) (hr : fN x 11 7 = 0) : Wd x ⟨11, 5, false⟩ := by
  have l1 := rd_lt x
  have l2 := rs1_lt x
  have l3 := rs2_lt x
  have l4 := f3_lt x
  have b31_12 := fN_lt x 31 12 1048576 (by decide)
  have b31_31 := fN_lt x 31 31 2 (by decide)
  have b30_21 := fN_lt x 30 21 1024 (by decide)
  have b20_20 := fN_lt x 20 20 2 (by decide)
  have b19_12 := fN_lt x 19 12 256 (by decide)
  have b30_25 := fN_lt x 30 25 64 (by decide)
  have b11_8 := fN_lt x 11 8 16 (by decide)
  have b7_7 := fN_lt x 7 7 2 (by decide)
  have b31_20 := fN_lt x 31 20 4096 (by decide)
  have b31_25 := fN_lt x 31 25 128 (by decide)
  have b25_20 := fN_lt x 25 20 64 (by decide)
  have b6_0 := fN_lt x 6 0 128 (by decide)
  unfold Wd
  show ∃ M : Nat, immN (shp 11 5) x = M ∧ wdN 11 5 false (regN (shp 11 5).rd x 11 7) (regN (shp 11 5).rs1 x 19 15) (regN (shp 11 5).rs2 x 24 20) M = x
  rw [show shp 11 5 = ⟨false, true, true, [], 0⟩ by rfl]
  refine ⟨0, by show sextV _ 0 = _; rw [sextV0]; rfl, ?_⟩
  show wdN 11 5 false 0 (fN x 19 15) (fN x 24 20) _ = x
  rw [wN_11]
  rw [put_sum _ _ _ _ _ _ (by decide) (by decide) (by decide) (by decide) l2 l3]
  clear l1 l2 l3 l4 b31_12 b31_31 b30_21 b20_20 b19_12 b30_25 b11_8 b7_7 b31_20 b31_25 b25_20 b6_0
  have a60 := f_6_0 x
  have a117 := f_11_7 x
  have a1412 := f_14_12 x
  have a1915 := f_19_15 x
  have a2420 := f_24_20 x
  have a3125 := f_31_25 x hx
  omega
theorem wd_w0 : Wd 115 ⟨11, 0, false⟩ := ⟨0, by kernel_rfl, by kernel_rfl⟩
theorem wd_w1 : Wd 1048691 ⟨11, 1, false⟩ := ⟨0, by kernel_rfl, by kernel_rfl⟩
theorem wd_w2 : Wd 270532723 ⟨11, 2, false⟩ := ⟨0, by kernel_rfl, by kernel_rfl⟩
theorem wd_w3 : Wd 807403635 ⟨11, 3, false⟩ := ⟨0, by kernel_rfl, by kernel_rfl⟩
theorem wd_w4 : Wd 273678451 ⟨11, 4, false⟩ := ⟨0, by kernel_rfl, by kernel_rfl⟩
theorem fence_same (x : Nat) (f : Int) (hk : kOf x = ⟨10, f, false⟩) (hf : f = 0 ∨ f = 1) : Same x := by
  have e : decI x = ⟨10, f, false, 0, 0, 0, 0⟩ := by
    unfold decI
    rw [hk]
    show (⟨10, f, false, 0, 0, 0, sextV _ 0⟩ : Ins) = _
    rw [sextV0]
  unfold Same
  rw [e]
  rcases hf with rfl | rfl
  · exact ⟨0, rfl, by decide, by kernel_rfl⟩
  · exact ⟨0, rfl, by decide, by kernel_rfl⟩
theorem amo_eq' (q rd s1 s2 : Nat) (d : Bool) (hq : q < 32) (h4 : rd < 32) (h5 : s1 < 32) (h6 : s2 < 32) : wdN 13 (q : Nat) d rd s1 s2 0 = encN 13 (q : Nat) d (rd : Nat) (s1 : Nat) (s2 : Nat) 0 := by
  have e1 : wdN 13 (q : Nat) d rd s1 s2 0 = putN 47 (if d then 2 else 3) (q * 4) rd s1 s2 := by
    unfold wdN
    simp only [show ¬ ((13 : Int) = 1) by decide, show ¬ ((13 : Int) = 2) by decide, show ¬ ((13 : Int) = 3) by decide, show ¬ ((13 : Int) = 4) by decide, show ¬ ((13 : Int) = 5) by decide, show ¬ ((13 : Int) = 6) by decide, show ¬ ((13 : Int) = 7) by decide, show ¬ ((13 : Int) = 8) by decide, show ¬ ((13 : Int) = 9) by decide, show ¬ ((13 : Int) = 10) by decide, show ¬ ((13 : Int) = 11) by decide, show ¬ ((13 : Int) = 12) by decide, if_false, if_true]
    rw [fl_32 _ hq]
  have e2 : encN 13 (q : Nat) d (rd : Nat) (s1 : Nat) (s2 : Nat) 0 = (lowN (q : Nat) 5 * 134217728 ||| (if d then 8192 else 12288) ||| 47) ||| (lowN (rd : Nat) 5 * 128 ||| lowN (s1 : Nat) 5 * 32768 ||| lowN (s2 : Nat) 5 * 1048576) := by
    unfold encN sprN
    rw [fix13, show shp 13 (q : Nat) = ⟨true, true, true, [], 0⟩ by simp [shp]]
    show _ ||| accN true true true _ _ _ = _
    rw [acc_ttt]
  rw [e1, e2, low5_lt _ hq, low5_lt _ h4, low5_lt _ h5, low5_lt _ h6]
  cases d
  · show putN 47 3 (q * 4) rd s1 s2 = (q * 134217728 ||| 12288 ||| 47) ||| (rd * 128 ||| s1 * 32768 ||| s2 * 1048576)
    rw [put_sum _ _ _ _ _ _ (by decide) (by decide) (by omega) h4 h5 h6, or_A q 12288 rd s1 s2 hq (.inr rfl) h4 h5 h6]
    omega
  · show putN 47 2 (q * 4) rd s1 s2 = (q * 134217728 ||| 8192 ||| 47) ||| (rd * 128 ||| s1 * 32768 ||| s2 * 1048576)
    rw [put_sum _ _ _ _ _ _ (by decide) (by decide) (by omega) h4 h5 h6, or_A q 8192 rd s1 s2 hq (.inl rfl) h4 h5 h6]
    omega
theorem amo_same (x : Nat) (hx : x < 4294967296) (hf : fN x 14 12 = 2 ∨ fN x 14 12 = 3) (hk : kOf x = ⟨13, (fN x 31 27 : Nat), ((fN x 14 12 : Nat) : Int) == 2⟩) : Same x := by
  have l1 := rd_lt x
  have l2 := rs1_lt x
  have l3 := rs2_lt x
  have l4 := f3_lt x
  have b31_12 := fN_lt x 31 12 1048576 (by decide)
  have b31_31 := fN_lt x 31 31 2 (by decide)
  have b30_21 := fN_lt x 30 21 1024 (by decide)
  have b20_20 := fN_lt x 20 20 2 (by decide)
  have b19_12 := fN_lt x 19 12 256 (by decide)
  have b30_25 := fN_lt x 30 25 64 (by decide)
  have b11_8 := fN_lt x 11 8 16 (by decide)
  have b7_7 := fN_lt x 7 7 2 (by decide)
  have b31_20 := fN_lt x 31 20 4096 (by decide)
  have b31_25 := fN_lt x 31 25 128 (by decide)
  have b25_20 := fN_lt x 25 20 64 (by decide)
  have b6_0 := fN_lt x 6 0 128 (by decide)
  have hq : fN x 31 27 < 32 := fN_lt x 31 27 32 (by decide)
  have e : decI x = ⟨13, (fN x 31 27 : Nat), ((fN x 14 12 : Nat) : Int) == 2, (fN x 11 7), (fN x 19 15), (fN x 24 20), 0⟩ := by
    unfold decI
    rw [hk]
    show (⟨13, (fN x 31 27 : Nat), ((fN x 14 12 : Nat) : Int) == 2, (fN x 11 7 : Nat), (fN x 19 15 : Nat), (fN x 24 20 : Nat), sextV _ 0⟩ : Ins) = _
    rw [sextV0]
  unfold Same
  rw [e]
  refine ⟨0, rfl, by decide, ?_⟩
  show wdN 13 (fN x 31 27 : Nat) (((fN x 14 12 : Nat) : Int) == 2) (fN x 11 7) (fN x 19 15) (fN x 24 20) 0 = encN 13 (fN x 31 27 : Nat) (((fN x 14 12 : Nat) : Int) == 2) ((fN x 11 7) : Nat) ((fN x 19 15) : Nat) ((fN x 24 20) : Nat) 0
  obtain ⟨b, hb⟩ : ∃ b, (((fN x 14 12 : Nat) : Int) == 2) = b := ⟨_, rfl⟩
  rw [hb]
  exact amo_eq' _ _ _ _ b hq l1 l2 l3
end Go.Proofs.Ytgekmhcekkmdhaa
