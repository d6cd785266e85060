/-
  Of every word that is an instruction, the document's word is package decode's; the document's Encode.
-/
import Derived.Test.YtgekmhcekkmdhaaDecPd
import Derived.Test.YtgekmhcekkmdhaaDecQ
set_option linter.unusedVariables false
set_option linter.unusedSimpArgs false
namespace Go.Proofs.Ytgekmhcekkmdhaa
open Go Go.RowKit

theorem imm_same (x : Nat) (hx : x < 4294967296) (d : Bool) (g : Int) (ho : fN x 6 0 = if d then 27 else 19) (hk : kOf x = kImm (fN x 14 12 : Nat) g d) (hg0 : g = 0 → x / 67108864 = 0) (hg32 : g = 32 → x / 67108864 = 16) (hn : noB (kOf x) = false) : Same x := by
  have hn' := hn
  rw [hk] at hn'
  by_cases f1 : fN x 14 12 = 1
  · have e : kImm (fN x 14 12 : Nat) g d = kOn (g == 0) 8 1 d := by rw [f1]; rfl
    rw [e] at hn' hk
    obtain ⟨h1, h2⟩ := on_yes hn'
    exact Same.of (hk.trans h2) (enc_8s x hx d ho 1 0 (.inl ⟨rfl, f1, rfl⟩) (hg0 (by simpa using h1))) (wd8s x hx d ho 1 0 (.inl ⟨rfl, f1, rfl⟩) (hg0 (by simpa using h1)))
  · by_cases f5 : fN x 14 12 = 5
    · by_cases g2 : g = 32
      · have e : kImm (fN x 14 12 : Nat) g d = ⟨8, 13, d⟩ := by rw [f5, g2]; rfl
        exact Same.of (hk.trans e) (enc_8s x hx d ho 13 32 (.inr (.inr ⟨rfl, f5, rfl⟩)) (hg32 g2)) (wd8s x hx d ho 13 32 (.inr (.inr ⟨rfl, f5, rfl⟩)) (hg32 g2))
      · have e : kImm (fN x 14 12 : Nat) g d = kOn (g == 0) 8 5 d := by rw [f5]; unfold kImm; rw [if_neg (by decide), if_pos (by decide), if_neg g2]; rfl
        rw [e] at hn' hk
        obtain ⟨h1, h2⟩ := on_yes hn'
        exact Same.of (hk.trans h2) (enc_8s x hx d ho 5 0 (.inr (.inl ⟨rfl, f5, rfl⟩)) (hg0 (by simpa using h1))) (wd8s x hx d ho 5 0 (.inr (.inl ⟨rfl, f5, rfl⟩)) (hg0 (by simpa using h1)))
    · have hE := enc_8i x hx d ho f1 f5
      by_cases f0 : fN x 14 12 = 0
      · have e : kImm (fN x 14 12 : Nat) g d = ⟨8, (fN x 14 12 : Nat), d⟩ := by rw [f0]; rfl
        exact Same.of (hk.trans e) hE (wd8i x hx d ho f1 f5)
      · have e : kImm (fN x 14 12 : Nat) g d = kOn (!d) 8 (fN x 14 12 : Nat) d := by unfold kImm; rw [if_neg (by omega), if_neg (by omega), if_neg (by omega)]
        rw [e] at hn' hk
        obtain ⟨h1, h2⟩ := on_yes hn'
        exact Same.of (hk.trans h2) hE (wd8i x hx d ho f1 f5)
theorem up16 (n : Nat) : upF ((n : Int) + 16) = 1 := by unfold upF; rw [if_pos (by omega)]
theorem up8 (n : Nat) (h : n < 8) : upF ((n : Int) + 8) = 32 := by unfold upF; rw [if_neg (by omega), if_pos (by omega)]
theorem low_add (n k : Nat) (h : n < 8) (hk : k % 8 = 0) : lowN ((n : Int) + (k : Int)) 3 = n := by
  rw [← Int.natCast_add, lowN_nat]
  omega
theorem reg_same (x : Nat) (hx : x < 4294967296) (d : Bool) (ho : fN x 6 0 = if d then 59 else 51) (hk : kOf x = kReg (fN x 14 12 : Nat) (fN x 31 25 : Nat) d) (hn : noB (kOf x) = false) : Same x := by
  have hf := f3_lt x
  have hn' := hn
  rw [hk] at hn'
  by_cases g0 : fN x 31 25 = 0
  · have e : kReg (fN x 14 12 : Nat) (fN x 31 25 : Nat) d = kOn (!d || ((fN x 14 12 : Nat) : Int) == 0 || regShift (fN x 14 12 : Nat)) 9 (fN x 14 12 : Nat) d := by unfold kReg; rw [if_pos (by omega)]
    rw [e] at hn' hk
    obtain ⟨_, h2⟩ := on_yes hn'
    exact Same.of (hk.trans h2) (enc_9 x hx d ho _ (low3_lt _ hf) (by rw [g0]; exact up_small _ hf)) (wd9 x hx d ho _ 0 (.inl ⟨rfl, rfl⟩) g0)
  · by_cases g2 : fN x 31 25 = 32
    · have e : kReg (fN x 14 12 : Nat) (fN x 31 25 : Nat) d = kOn (((fN x 14 12 : Nat) : Int) == 0 || ((fN x 14 12 : Nat) : Int) == 5) 9 ((fN x 14 12 : Nat) + 8) d := by unfold kReg; rw [if_neg (by omega), if_pos (by omega)]
      rw [e] at hn' hk
      obtain ⟨h1, h2⟩ := on_yes hn'
      exact Same.of (hk.trans h2) (enc_9 x hx d ho _ (low_add _ 8 hf rfl) (by rw [g2]; exact up8 _ hf)) (wd9 x hx d ho _ 32 (.inr (.inl ⟨rfl, rfl, by have h1' : fN x 14 12 = 0 ∨ ((fN x 14 12 : Nat) : Int) = 5 := (by simpa using h1); omega⟩)) g2)
    · by_cases g1 : fN x 31 25 = 1
      · have e : kReg (fN x 14 12 : Nat) (fN x 31 25 : Nat) d = kOn (!d || ((fN x 14 12 : Nat) : Int) + 16 == 16 || decide (20 ≤ ((fN x 14 12 : Nat) : Int) + 16)) 9 ((fN x 14 12 : Nat) + 16) d := by unfold kReg; rw [if_neg (by omega), if_neg (by omega), if_pos (by omega)]
        rw [e] at hn' hk
        obtain ⟨_, h2⟩ := on_yes hn'
        exact Same.of (hk.trans h2) (enc_9 x hx d ho _ (low_add _ 16 hf rfl) (by rw [g1]; exact up16 _)) (wd9 x hx d ho _ 1 (.inr (.inr ⟨rfl, rfl⟩)) g1)
      · have e : kReg (fN x 14 12 : Nat) (fN x 31 25 : Nat) d = kNo := by unfold kReg; rw [if_neg (by omega), if_neg (by omega), if_neg (by omega)]
        rw [e] at hn'
        exact absurd (show noB kNo = true from rfl) (by rw [hn']; decide)
theorem sys_same (x : Nat) (hx : x < 4294967296) (ho : fN x 6 0 = 115) (hk : kOf x = kSys x (fN x 14 12 : Nat) (fN x 31 25 : Nat)) (hn : noB (kOf x) = false) : Same x := by
  have hn' := hn
  rw [hk] at hn'
  by_cases h0 : x = 115
  · subst h0
    exact Same.of (k := ⟨11, 0, false⟩) (by kernel_rfl) enc_w0 wd_w0
  · by_cases h1 : x = 1048691
    · subst h1
      exact Same.of (k := ⟨11, 1, false⟩) (by kernel_rfl) enc_w1 wd_w1
    · by_cases h2 : x = 270532723
      · subst h2
        exact Same.of (k := ⟨11, 2, false⟩) (by kernel_rfl) enc_w2 wd_w2
      · by_cases h3 : x = 807403635
        · subst h3
          exact Same.of (k := ⟨11, 3, false⟩) (by kernel_rfl) enc_w3 wd_w3
        · by_cases h4 : x = 273678451
          · subst h4
            exact Same.of (k := ⟨11, 4, false⟩) (by kernel_rfl) enc_w4 wd_w4
          · by_cases hf : fN x 14 12 = 0
            · have e : kSys x (fN x 14 12 : Nat) (fN x 31 25 : Nat) = kOn (((fN x 31 25 : Nat) : Int) == 9 && ((fN x 11 7 : Nat) : Int) == 0) 11 5 false := by
                unfold kSys
                rw [if_neg h0, if_neg h1, if_neg h2, if_neg h3, if_neg h4, if_neg (by omega)]
              rw [e] at hn' hk
              obtain ⟨hb, h2'⟩ := on_yes hn'
              simp only [Bool.and_eq_true, beq_iff_eq] at hb
              exact Same.of (hk.trans h2') (enc_11s x hx ho hf (by omega) (by omega)) (wd11s x hx ho hf (by omega) (by omega))
            · have e : kSys x (fN x 14 12 : Nat) (fN x 31 25 : Nat) = kOn (((fN x 14 12 : Nat) : Int) != 4) 12 (fN x 14 12 : Nat) false := by
                unfold kSys
                rw [if_neg h0, if_neg h1, if_neg h2, if_neg h3, if_neg h4, if_pos (by omega)]
              rw [e] at hn' hk
              obtain ⟨_, h2'⟩ := on_yes hn'
              exact Same.of (hk.trans h2') (enc_C x hx ho) (wdC x hx ho)
theorem amo_all' (x : Nat) (hx : x < 4294967296) (ho : fN x 6 0 = 47) (hk : kOf x = kAmo x (fN x 14 12 : Nat)) (hn : noB (kOf x) = false) : Same x := by
  have hn' := hn
  rw [hk] at hn'
  by_cases hf : fN x 14 12 = 2 ∨ fN x 14 12 = 3
  · have hf' : ((fN x 14 12 : Nat) : Int) = 2 ∨ ((fN x 14 12 : Nat) : Int) = 3 := by omega
    by_cases ha : amoIs (fN x 31 27) = true
    · exact amo_same x hx hf (hk.trans (by unfold kAmo; rw [if_pos hf', if_pos ha]))
    · by_cases h2 : fN x 31 27 = 2
      · have e : kAmo x (fN x 14 12 : Nat) = kOn (((fN x 24 20 : Nat) : Int) == 0) 13 (fN x 31 27 : Nat) (((fN x 14 12 : Nat) : Int) == 2) := by unfold kAmo; rw [if_pos hf', if_neg ha, if_pos h2]
        rw [e] at hn' hk
        exact amo_same x hx hf (hk.trans (on_yes hn').2)
      · have e : kAmo x (fN x 14 12 : Nat) = kNo := by unfold kAmo; rw [if_pos hf', if_neg ha, if_neg h2]
        rw [e] at hn'
        exact absurd (show noB kNo = true from rfl) (by rw [hn']; decide)
  · have e : kAmo x (fN x 14 12 : Nat) = kNo := by unfold kAmo; rw [if_neg (by omega)]
    rw [e] at hn'
    exact absurd (show noB kNo = true from rfl) (by rw [hn']; decide)
theorem same_all (x : Nat) (hx : x < 4294967296) (hn : noB (kOf x) = false) : Same x := by
  have hf := f3_lt x
  have hg := f_31_25 x hx
  have hk0 : kOf x = kF x (fN x 14 12 : Nat) (fN x 31 25 : Nat) := rfl
  unfold kF at hk0
  by_cases h55 : fN x 6 0 = 55
  · rw [if_pos h55] at hk0
    exact Same.of hk0 (enc_U x hx 1 55 (.inl ⟨rfl, rfl⟩) h55) (wdU_1 x hx h55)
  rw [if_neg h55] at hk0
  by_cases h23 : fN x 6 0 = 23
  · rw [if_pos h23] at hk0
    exact Same.of hk0 (enc_U x hx 2 23 (.inr ⟨rfl, rfl⟩) h23) (wdU_2 x hx h23)
  rw [if_neg h23] at hk0
  by_cases h111 : fN x 6 0 = 111
  · rw [if_pos h111] at hk0
    exact Same.of hk0 (enc_J x hx h111) (wdJ x hx h111)
  rw [if_neg h111] at hk0
  by_cases h103 : fN x 6 0 = 103
  · rw [if_pos h103] at hk0
    rw [hk0] at hn
    obtain ⟨h1, h2⟩ := on_yes hn
    exact Same.of (hk0.trans h2) (enc_Jr x hx h103 (by simpa using h1)) (wdJr x hx h103 (by simpa using h1))
  rw [if_neg h103] at hk0
  by_cases h99 : fN x 6 0 = 99
  · rw [if_pos h99] at hk0
    rw [hk0] at hn
    exact Same.of (hk0.trans (on_yes hn).2) (enc_B x hx h99) (wdB x hx h99)
  rw [if_neg h99] at hk0
  by_cases h3 : fN x 6 0 = 3
  · rw [if_pos h3] at hk0
    rw [hk0] at hn
    exact Same.of (hk0.trans (on_yes hn).2) (enc_L x hx h3) (wdL x hx h3)
  rw [if_neg h3] at hk0
  by_cases h35 : fN x 6 0 = 35
  · rw [if_pos h35] at hk0
    rw [hk0] at hn
    exact Same.of (hk0.trans (on_yes hn).2) (enc_S x hx h35) (wdS x hx h35)
  rw [if_neg h35] at hk0
  by_cases h19 : fN x 6 0 = 19
  · rw [if_pos h19] at hk0
    exact imm_same x hx false _ (by rw [h19]; rfl) hk0 (fun h => by omega) (fun h => by omega) hn
  rw [if_neg h19] at hk0
  by_cases h27 : fN x 6 0 = 27
  · rw [if_pos h27] at hk0
    exact imm_same x hx true _ (by rw [h27]; rfl) hk0 (fun h => by omega) (fun h => by omega) hn
  rw [if_neg h27] at hk0
  by_cases h51 : fN x 6 0 = 51
  · rw [if_pos h51] at hk0
    exact reg_same x hx false (by rw [h51]; rfl) hk0 hn
  rw [if_neg h51] at hk0
  by_cases h59 : fN x 6 0 = 59
  · rw [if_pos h59] at hk0
    exact reg_same x hx true (by rw [h59]; rfl) hk0 hn
  rw [if_neg h59] at hk0
  by_cases h15 : fN x 6 0 = 15
  · rw [if_pos h15] at hk0
    rw [hk0] at hn
    obtain ⟨h1, h2⟩ := on_yes hn
    have h1' : ((fN x 14 12 : Nat) : Int) ≤ 1 := by simpa using h1
    exact fence_same x _ (hk0.trans h2) (by omega)
  rw [if_neg h15] at hk0
  by_cases h115 : fN x 6 0 = 115
  · rw [if_pos h115] at hk0
    exact sys_same x hx h115 hk0 hn
  rw [if_neg h115] at hk0
  by_cases h47 : fN x 6 0 = 47
  · rw [if_pos h47] at hk0
    exact amo_all' x hx h47 hk0 hn
  rw [if_neg h47] at hk0
  rw [hk0] at hn
  exact absurd (show noB kNo = true from rfl) (by rw [hn]; decide)
end Go.Proofs.Ytgekmhcekkmdhaa
