/-
  Numbers of control registers: what is kept is kept again, and package csr's numbers are the document's.
-/
import Derived.Test.YtpehfmchcjanhaaDoorCsrH
import Derived.Test.YtpehfmchcjanhaaDoorCsrM
set_option linter.unusedVariables false
set_option linter.unusedSimpArgs false
namespace Go.Proofs.YtpehfmchcjanhaaDoor
open Go.RowKit

theorem cs_eql (c : Nat → Int) (w : World) : (binOp .eql 24 (csV c) (csV c)).run Tryd.prog w = .ok (.bool true) w := by
  have hu := Tryd.underlying24
  have hp : Tryd.prog.stoodInHeld 24 = false := by kernel_rfl
  rw [run_eql_struct, run_equalIn_agg w 9999 _ _ _ (by simp [Program.fieldsOf, hu]) hp]
  simp only [Program.fieldsOf, hu]
  simp [Op.eqFields, go_sem, csA]

/-! ### the walk's numbers as plain ones -/
theorem b_and (a b : Nat) (ha : a < 2 ^ 64) (hb : b < 2 ^ 64) : bits .and .u64 (a : Int) (b : Int) = ((a &&& b : Nat) : Int) := u64_and_nat a b (by simpa using ha) (by simpa using hb)
theorem b_or (a b : Nat) (ha : a < 2 ^ 64) (hb : b < 2 ^ 64) : bits .or .u64 (a : Int) (b : Int) = ((a ||| b : Nat) : Int) := u64_or_nat a b (by simpa using ha) (by simpa using hb)
theorem b_xor (a b : Nat) (ha : a < 2 ^ 64) (hb : b < 2 ^ 64) : bits .xor .u64 (a : Int) (b : Int) = ((a ^^^ b : Nat) : Int) := u64_xor_nat a b (by simpa using ha) (by simpa using hb)
theorem b_not (a b : Nat) (ha : a < 2 ^ 64) (hb : b < 2 ^ 64) : bits .andNot .u64 (a : Int) (b : Int) = ((ndn a b : Nat) : Int) := u64_andNot_nat a b (by simpa using ha) (by simpa using hb)
theorem nat_of {x : Int} (h0 : 0 ≤ x) (h1 : x < 18446744073709551616) : ∃ n : Nat, n < 2 ^ 64 ∧ x = (n : Int) := ⟨x.toNat, by omega, by omega⟩
theorem b_mrg (o x m : Nat) (ho : o < 2 ^ 64) (hx : x < 2 ^ 64) (hm : m < 2 ^ 64) : mrg (o : Int) (x : Int) (m : Int) = ((mrgN o x m : Nat) : Int) := by
  unfold mrg mrgN
  rw [b_not o m ho hm, b_and x m hx hm, b_or _ _ (ndn_lt _ _ ho) (and_lt _ _ hx)]
theorem l_and (a : Nat) (ha : a < 2 ^ 64) (m : Nat) (hm : m < 2 ^ 64) (M : Int) (hM : M = (m : Int)) : bits .and .u64 (a : Int) M = ((a &&& m : Nat) : Int) := by rw [hM, b_and a m ha hm]
theorem l_or (a : Nat) (ha : a < 2 ^ 64) (m : Nat) (hm : m < 2 ^ 64) (M : Int) (hM : M = (m : Int)) : bits .or .u64 (a : Int) M = ((a ||| m : Nat) : Int) := by rw [hM, b_or a m ha hm]
theorem l_not (a : Nat) (ha : a < 2 ^ 64) (m : Nat) (hm : m < 2 ^ 64) (M : Int) (hM : M = (m : Int)) : bits .andNot .u64 (a : Int) M = ((ndn a m : Nat) : Int) := by rw [hM, b_not a m ha hm]
theorem l_mrg (o x : Nat) (ho : o < 2 ^ 64) (hx : x < 2 ^ 64) (m : Nat) (hm : m < 2 ^ 64) (M : Int) (hM : M = (m : Int)) : mrg (o : Int) (x : Int) M = ((mrgN o x m : Nat) : Int) := by rw [hM, b_mrg o x m ho hx hm]
theorem keptV_nat (x : Nat) (hx : x < 2 ^ 64) : keptV (x : Int) = ((keptN x : Nat) : Int) := by
  unfold keptV keptN
  rw [l_and x hx 6144 (by decide) 6144 rfl, l_not x hx 6144 (by decide) 6144 rfl, l_and _ (ndn_lt _ _ hx) 8264106 (by decide) 8264106 rfl, l_and x hx 8264106 (by decide) 8264106 rfl]
  by_cases h : x &&& 6144 = 4096
  · rw [if_pos h, if_pos (by rw [h]; rfl)]
  · rw [if_neg h, if_neg (fun e => h (by omega))]
theorem statV_nat (x : Nat) (hx : x < 2 ^ 64) : statV (x : Int) = ((statN x : Nat) : Int) := by
  unfold statV statY statN
  rw [l_and x hx 8264106 (by decide) 8264106 rfl]
  by_cases h : (x &&& 8264106) / 2048 % 4 = 2
  · rw [if_pos h, if_pos (by omega)]
    omega
  · rw [if_neg h, if_neg (by omega)]
theorem kept_is_stat (x : Int) (h0 : 0 ≤ x) (h1 : x < 18446744073709551616) : keptV x = statV x := by
  obtain ⟨n, hn, rfl⟩ := nat_of h0 h1
  rw [keptV_nat n hn, statV_nat n hn, kept_stat n hn]
theorem tvec_is (x : Int) (h0 : 0 ≤ x) (h1 : x < 18446744073709551616) : bits .and .u64 x 18446744073709551613 = bits .andNot .u64 x 2 := by
  obtain ⟨n, hn, rfl⟩ := nat_of h0 h1
  rw [l_and n hn 18446744073709551613 (by decide) 18446744073709551613 rfl, l_not n hn 2 (by decide) 2 rfl]
  rfl
theorem epc_is (x : Int) (h0 : 0 ≤ x) (h1 : x < 18446744073709551616) : bits .and .u64 x 18446744073709551614 = bits .andNot .u64 x 1 := by
  obtain ⟨n, hn, rfl⟩ := nat_of h0 h1
  rw [l_and n hn 18446744073709551614 (by decide) 18446744073709551614 rfl, l_not n hn 1 (by decide) 1 rfl]
  rfl

/-! ### package csr's answers are the document's -/
theorem lv_eq : ((List.range 26).all fun k => lvV (nmR k) == (nmR k / 256).tmod 4) = true := by kernel_rfl
theorem ro_eq : ((List.range 26).all fun k => roB (nmR k) == (nmR k / 1024 == 3)) = true := by kernel_rfl
theorem lv_at {k : Nat} (hk : k < 26) : lvV (nmR k) = (nmR k / 256).tmod 4 := by
  have := List.all_eq_true.1 lv_eq k (List.mem_range.2 hk)
  simpa using this
theorem ro_at {k : Nat} (hk : k < 26) : roB (nmR k) = (nmR k / 1024 == 3) := by
  have := List.all_eq_true.1 ro_eq k (List.mem_range.2 hk)
  exact eq_of_beq this
theorem hid_eq (c : Nat → Int) (hc : csOk c) (n p : Int) : hidB c n p = (n == 384 && (p == 1 && (c 0 / 1048576 % 2 == 1))) := by
  unfold hidB
  obtain ⟨s, hs, e⟩ := nat_of (hc 0).1 (hc 0).2
  have hb := one_bit s
  have e1 : (bits .and .u64 (c 0) 1048576 != 0) = (c 0 / 1048576 % 2 == 1) := by
    rw [e, l_and s hs 1048576 (by decide) 1048576 rfl, Bool.eq_iff_iff]
    rw [bne_iff_ne, beq_iff_eq]
    constructor
    · intro h
      by_cases h2 : s / 1048576 % 2 = 1
      · omega
      · exact absurd (by rw [hb.2 h2]; rfl) h
    · intro h h3
      exact hb.1 (by omega) (by omega)
  rw [e1]
theorem rd_eq (c : Nat → Int) (hc : csOk c) (n p : Int) : rdR c n p = rdB c n p := by
  rcases in_cases n with ⟨k, hk, rfl⟩ | h
  · unfold rdR rdB
    rw [hid_eq c hc, lv_at hk]
  · unfold rdR rdB
    rw [in_no h]
    rfl
theorem wr_eq (c : Nat → Int) (hc : csOk c) (n p : Int) : wrR c n p = wrB c n p := by
  unfold wrR wrB
  rw [rd_eq c hc]
  rcases in_cases n with ⟨k, hk, rfl⟩ | h
  · rw [ro_at hk]
  · unfold rdB
    rw [in_no h]
    rfl
theorem wrV_ref (c : Nat → Int) (n p x : Int) (h0 : 0 ≤ x) (h1 : x < 18446744073709551616) (hb : wrB c n p = true) : wrV c n x = refV c n x := by
  rcases in_cases n with ⟨k, hk, rfl⟩ | h
  · have ho : roB (nmR k) = false := by
      simp only [wrB, Bool.and_eq_true, Bool.not_eq_true'] at hb
      exact hb.2
    clear hb
    have ek := kept_is_stat x h0 h1
    have et := tvec_is x h0 h1
    have ee := epc_is x h0 h1
    obtain rfl | rfl | rfl | rfl | rfl | rfl | rfl | rfl | rfl | rfl | rfl | rfl | rfl | rfl | rfl | rfl | rfl | rfl | rfl | rfl | rfl | rfl | rfl | rfl | rfl | rfl : k = 0 ∨ k = 1 ∨ k = 2 ∨ k = 3 ∨ k = 4 ∨ k = 5 ∨ k = 6 ∨ k = 7 ∨ k = 8 ∨ k = 9 ∨ k = 10 ∨ k = 11 ∨ k = 12 ∨ k = 13 ∨ k = 14 ∨ k = 15 ∨ k = 16 ∨ k = 17 ∨ k = 18 ∨ k = 19 ∨ k = 20 ∨ k = 21 ∨ k = 22 ∨ k = 23 ∨ k = 24 ∨ k = 25 := by omega
    all_goals first
      | exact absurd ho (by decide +kernel)
      | simp [wrV, refV, supV, macV, nmR, numR, ek, et, ee]
  · simp only [wrB, rdB, in_no h] at hb
    cases hb

/-! ### what follows -/
theorem in_of_rd {c : Nat → Int} {n p : Int} (h : rdB c n p = true) : ∃ k, k < 26 ∧ n = nmR k := by
  rcases in_cases n with h' | h'
  · exact h'
  · rw [rdB, in_no h'] at h
    cases h
theorem upd_at (c : Nat → Int) (i : Nat) (v : Int) (j : Nat) : upd c i v j = if j = i then v else c j := rfl
theorem upd_upd (c : Nat → Int) (i : Nat) (a b : Int) : upd (upd c i a) i b = upd c i b := by
  funext j
  unfold upd
  by_cases h : j = i
  · rw [if_pos h, if_pos h]
  · rw [if_neg h, if_neg h, if_neg h]
theorem upd_same {c : Nat → Int} {i : Nat} {v : Int} (h : v = c i) : upd c i v = c := by
  funext j
  unfold upd
  by_cases hj : j = i
  · rw [if_pos hj, h, hj]
  · rw [if_neg hj]
theorem upd_back (c : Nat → Int) (s : Int) : upd (upd c 0 s) 0 (c 0) = c := by
  rw [upd_upd]
  exact upd_same rfl
theorem cast_bd {n : Nat} (h : n < 2 ^ 64) : 0 ≤ (n : Int) ∧ (n : Int) < 18446744073709551616 := by omega
theorem kept_bd (x : Int) (h0 : 0 ≤ x) (h1 : x < 18446744073709551616) : 0 ≤ keptV x ∧ keptV x < 18446744073709551616 := by
  obtain ⟨n, hn, rfl⟩ := nat_of h0 h1
  rw [keptV_nat n hn]
  exact cast_bd (keptN_lt n hn)
theorem mrg_bd (o x m : Int) (o0 : 0 ≤ o) (o1 : o < 18446744073709551616) (h0 : 0 ≤ x) (h1 : x < 18446744073709551616) (m0 : 0 ≤ m) (m1 : m < 18446744073709551616) : 0 ≤ mrg o x m ∧ mrg o x m < 18446744073709551616 := by
  obtain ⟨o, ho, rfl⟩ := nat_of o0 o1
  obtain ⟨x, hx, rfl⟩ := nat_of h0 h1
  obtain ⟨m, hm, rfl⟩ := nat_of m0 m1
  rw [b_mrg o x m ho hx hm]
  exact cast_bd (mrgN_lt _ _ _ ho hx)
theorem and2_bd (x m : Int) (h0 : 0 ≤ x) (h1 : x < 18446744073709551616) (m0 : 0 ≤ m) (m1 : m < 18446744073709551616) : 0 ≤ bits .and .u64 x m ∧ bits .and .u64 x m < 18446744073709551616 := and_bd x m h0 h1 m0 m1
theorem wrV_ok (c : Nat → Int) (hc : csOk c) (n x : Int) (h0 : 0 ≤ x) (h1 : x < 18446744073709551616) : csOk (wrV c n x) := by
  have k0 := kept_bd x h0 h1
  have a1 := and2_bd x 46079 h0 h1 (by decide) (by decide)
  have a2 := and2_bd x 546 h0 h1 (by decide) (by decide)
  have a3 := and2_bd x 2730 h0 h1 (by decide) (by decide)
  have a4 := and2_bd x 18446744073709551613 h0 h1 (by decide) (by decide)
  have a5 := and2_bd x 18446744073709551614 h0 h1 (by decide) (by decide)
  have b1 := and2_bd (c 2) 2730 (hc 2).1 (hc 2).2 (by decide) (by decide)
  have b2 := and2_bd (c 2) 2 (hc 2).1 (hc 2).2 (by decide) (by decide)
  have m0 := mrg_bd (c 0) x 786722 (hc 0).1 (hc 0).2 h0 h1 (by decide) (by decide)
  have m3 := mrg_bd (c 3) x _ (hc 3).1 (hc 3).2 h0 h1 b1.1 b1.2
  have m4 := mrg_bd (c 4) x 546 (hc 4).1 (hc 4).2 h0 h1 (by decide) (by decide)
  have m5 := mrg_bd (c 4) x _ (hc 4).1 (hc 4).2 h0 h1 b2.1 b2.2
  unfold wrV
  by_cases e768 : n = 768
  · rw [if_pos e768]
    exact upd_ok hc _ _ k0.1 k0.2
  rw [if_neg e768]
  by_cases e256 : n = 256
  · rw [if_pos e256]
    exact upd_ok hc _ _ m0.1 m0.2
  rw [if_neg e256]
  by_cases e770 : n = 770
  · rw [if_pos e770]
    exact upd_ok hc _ _ a1.1 a1.2
  rw [if_neg e770]
  by_cases e771 : n = 771
  · rw [if_pos e771]
    exact upd_ok hc _ _ a2.1 a2.2
  rw [if_neg e771]
  by_cases e772 : n = 772
  · rw [if_pos e772]
    exact upd_ok hc _ _ a3.1 a3.2
  rw [if_neg e772]
  by_cases e260 : n = 260
  · rw [if_pos e260]
    exact upd_ok hc _ _ m3.1 m3.2
  rw [if_neg e260]
  by_cases e836 : n = 836
  · rw [if_pos e836]
    exact upd_ok hc _ _ m4.1 m4.2
  rw [if_neg e836]
  by_cases e324 : n = 324
  · rw [if_pos e324]
    exact upd_ok hc _ _ m5.1 m5.2
  rw [if_neg e324]
  by_cases e773 : n = 773
  · rw [if_pos e773]
    exact upd_ok hc _ _ a4.1 a4.2
  rw [if_neg e773]
  by_cases e261 : n = 261
  · rw [if_pos e261]
    exact upd_ok hc _ _ a4.1 a4.2
  rw [if_neg e261]
  by_cases e832 : n = 832
  · rw [if_pos e832]
    exact upd_ok hc _ _ h0 h1
  rw [if_neg e832]
  by_cases e320 : n = 320
  · rw [if_pos e320]
    exact upd_ok hc _ _ h0 h1
  rw [if_neg e320]
  by_cases e833 : n = 833
  · rw [if_pos e833]
    exact upd_ok hc _ _ a5.1 a5.2
  rw [if_neg e833]
  by_cases e321 : n = 321
  · rw [if_pos e321]
    exact upd_ok hc _ _ a5.1 a5.2
  rw [if_neg e321]
  by_cases e834 : n = 834
  · rw [if_pos e834]
    exact upd_ok hc _ _ h0 h1
  rw [if_neg e834]
  by_cases e322 : n = 322
  · rw [if_pos e322]
    exact upd_ok hc _ _ h0 h1
  rw [if_neg e322]
  by_cases e835 : n = 835
  · rw [if_pos e835]
    exact upd_ok hc _ _ h0 h1
  rw [if_neg e835]
  by_cases e323 : n = 323
  · rw [if_pos e323]
    exact upd_ok hc _ _ h0 h1
  rw [if_neg e323]
  by_cases e384 : n = 384
  · rw [if_pos e384]
    by_cases hs : satpB x = true
    · rw [if_pos hs]; exact upd_ok hc _ _ h0 h1
    · rw [if_neg hs]; exact hc
  rw [if_neg e384]
  by_cases e2816 : n = 2816
  · rw [if_pos e2816]
    exact upd_ok hc _ _ h0 h1
  rw [if_neg e2816]
  exact hc

theorem V_kept (x : Int) (h0 : 0 ≤ x) (h1 : x < 18446744073709551616) : keptV (keptV x) = keptV x := by
  obtain ⟨x, hx, rfl⟩ := nat_of h0 h1
  rw [keptV_nat x hx, keptV_nat _ (keptN_lt x hx), kept_kept x hx]
theorem V_keptM (s x : Int) (s0 : 0 ≤ s) (s1 : s < 18446744073709551616) (h0 : 0 ≤ x) (h1 : x < 18446744073709551616) (h : keptV s = s) : keptV (mrg s x 786722) = mrg s x 786722 := by
  obtain ⟨s, hs, rfl⟩ := nat_of s0 s1
  obtain ⟨x, hx, rfl⟩ := nat_of h0 h1
  rw [keptV_nat s hs] at h
  rw [l_mrg s x hs hx 786722 (by decide) 786722 rfl, keptV_nat _ (mrgN_lt _ _ _ hs hx), kept_mrg s x hs hx (by omega)]
theorem V_within (x : Int) (h0 : 0 ≤ x) (h1 : x < 18446744073709551616) (m : Nat) (hm : m < 2 ^ 64) (M : Int) (hM : M = (m : Int)) : bits .andNot .u64 (bits .and .u64 x M) M = 0 := by
  obtain ⟨x, hx, rfl⟩ := nat_of h0 h1
  rw [hM, b_and x m hx hm, b_not _ m (and_lt _ _ hx) hm, within_and x m m hx hm (fun _ h => h)]
  rfl
theorem V_withinM (o x m : Int) (o0 : 0 ≤ o) (o1 : o < 18446744073709551616) (h0 : 0 ≤ x) (h1 : x < 18446744073709551616) (M : Nat) (hM : M < 2 ^ 64) (n : Nat) (hn : n < 2 ^ 64) (hm : m = (n : Int)) (hs : ∀ i, n.testBit i = true → M.testBit i = true) (MI : Int) (hMI : MI = (M : Int)) (h : bits .andNot .u64 o MI = 0) : bits .andNot .u64 (mrg o x m) MI = 0 := by
  obtain ⟨o, ho, rfl⟩ := nat_of o0 o1
  obtain ⟨x, hx, rfl⟩ := nat_of h0 h1
  subst hm hMI
  rw [b_not o M ho hM] at h
  rw [b_mrg o x n ho hx hn, b_not _ M (mrgN_lt _ _ _ ho hx) hM, within_mrg o x n M ho hx hn hM (by omega) hs]
  rfl
set_option maxRecDepth 100000 in
set_option maxHeartbeats 1000000 in
theorem chk_stays (c : Nat → Int) (hc : csOk c) (n x : Int) (h0 : 0 ≤ x) (h1 : x < 18446744073709551616) (hk : chkB c = true) : chkB (wrV c n x) = true := by
  simp only [chkB, Bool.and_eq_true, beq_iff_eq] at hk
  obtain ⟨f0, f1, f2, f3, f4, f5, f6, f7, f8, f9⟩ := hk
  obtain ⟨g, hg, e2⟩ := nat_of (hc 2).1 (hc 2).2
  have K0 := V_kept x h0 h1
  have K1 := V_keptM (c 0) x (hc 0).1 (hc 0).2 h0 h1 f0
  have A1 := V_within x h0 h1 46079 (by decide) 46079 rfl
  have A2 := V_within x h0 h1 546 (by decide) 546 rfl
  have A3 := V_within x h0 h1 2730 (by decide) 2730 rfl
  have A4 := V_within x h0 h1 18446744073709551613 (by decide) 18446744073709551613 rfl
  have A5 := V_within x h0 h1 18446744073709551614 (by decide) 18446744073709551614 rfl
  have M3 := V_withinM (c 3) x (bits .and .u64 (c 2) 2730) (hc 3).1 (hc 3).2 h0 h1 2730 (by decide) (g &&& 2730) (and_lt _ _ hg) (by rw [e2, l_and g hg 2730 (by decide) 2730 rfl]) (and_sub g 2730) 2730 rfl f3
  have M4 := V_withinM (c 4) x 546 (hc 4).1 (hc 4).2 h0 h1 2730 (by decide) 546 (by decide) rfl (mask_sub (by decide)) 2730 rfl f4
  have M5 := V_withinM (c 4) x (bits .and .u64 (c 2) 2) (hc 4).1 (hc 4).2 h0 h1 2730 (by decide) (g &&& 2) (and_lt _ _ hg) (by rw [e2, l_and g hg 2 (by decide) 2 rfl]) (fun i hi => mask_sub (m := 2) (M := 2730) (by decide) i (and_sub g 2 i hi)) 2730 rfl f4
  clear e2
  have wr : ∀ (i : Nat) (v : Int), (i = 0 → keptV v = v) → (i = 1 → bits .andNot .u64 v 46079 = 0) → (i = 2 → bits .andNot .u64 v 546 = 0) → (i = 3 ∨ i = 4 → bits .andNot .u64 v 2730 = 0) → (i = 5 ∨ i = 10 → bits .andNot .u64 v 18446744073709551613 = 0) →
      (i = 7 ∨ i = 12 → bits .andNot .u64 v 18446744073709551614 = 0) → (i = 15 → satpB v = true) → chkB (upd c i v) = true := by
    intro i v v0 v1 v2 v3 v5 v7 v15
    simp only [chkB, Bool.and_eq_true, beq_iff_eq, upd_at]
    refine ⟨?_, ?_, ?_, ?_, ?_, ?_, ?_, ?_, ?_, ?_⟩
    · split
      · exact v0 (by omega)
      · exact f0
    · split
      · exact v1 (by omega)
      · exact f1
    · split
      · exact v2 (by omega)
      · exact f2
    · split
      · exact v3 (by omega)
      · exact f3
    · split
      · exact v3 (by omega)
      · exact f4
    · split
      · exact v5 (by omega)
      · exact f5
    · split
      · exact v5 (by omega)
      · exact f6
    · split
      · exact v7 (by omega)
      · exact f7
    · split
      · exact v7 (by omega)
      · exact f8
    · split
      · exact v15 (by omega)
      · exact f9
  have same : chkB c = true := by
    simp only [chkB, Bool.and_eq_true, beq_iff_eq]
    exact ⟨f0, f1, f2, f3, f4, f5, f6, f7, f8, f9⟩
  unfold wrV
  by_cases e768 : n = 768
  · rw [if_pos e768]
    exact wr 0 _ (fun _ => K0) (fun h => absurd h (by decide)) (fun h => absurd h (by decide)) (fun h => absurd h (by decide)) (fun h => absurd h (by decide)) (fun h => absurd h (by decide)) (fun h => absurd h (by decide))
  rw [if_neg e768]
  by_cases e256 : n = 256
  · rw [if_pos e256]
    exact wr 0 _ (fun _ => K1) (fun h => absurd h (by decide)) (fun h => absurd h (by decide)) (fun h => absurd h (by decide)) (fun h => absurd h (by decide)) (fun h => absurd h (by decide)) (fun h => absurd h (by decide))
  rw [if_neg e256]
  by_cases e770 : n = 770
  · rw [if_pos e770]
    exact wr 1 _ (fun h => absurd h (by decide)) (fun _ => A1) (fun h => absurd h (by decide)) (fun h => absurd h (by decide)) (fun h => absurd h (by decide)) (fun h => absurd h (by decide)) (fun h => absurd h (by decide))
  rw [if_neg e770]
  by_cases e771 : n = 771
  · rw [if_pos e771]
    exact wr 2 _ (fun h => absurd h (by decide)) (fun h => absurd h (by decide)) (fun _ => A2) (fun h => absurd h (by decide)) (fun h => absurd h (by decide)) (fun h => absurd h (by decide)) (fun h => absurd h (by decide))
  rw [if_neg e771]
  by_cases e772 : n = 772
  · rw [if_pos e772]
    exact wr 3 _ (fun h => absurd h (by decide)) (fun h => absurd h (by decide)) (fun h => absurd h (by decide)) (fun _ => A3) (fun h => absurd h (by decide)) (fun h => absurd h (by decide)) (fun h => absurd h (by decide))
  rw [if_neg e772]
  by_cases e260 : n = 260
  · rw [if_pos e260]
    exact wr 3 _ (fun h => absurd h (by decide)) (fun h => absurd h (by decide)) (fun h => absurd h (by decide)) (fun _ => M3) (fun h => absurd h (by decide)) (fun h => absurd h (by decide)) (fun h => absurd h (by decide))
  rw [if_neg e260]
  by_cases e836 : n = 836
  · rw [if_pos e836]
    exact wr 4 _ (fun h => absurd h (by decide)) (fun h => absurd h (by decide)) (fun h => absurd h (by decide)) (fun _ => M4) (fun h => absurd h (by decide)) (fun h => absurd h (by decide)) (fun h => absurd h (by decide))
  rw [if_neg e836]
  by_cases e324 : n = 324
  · rw [if_pos e324]
    exact wr 4 _ (fun h => absurd h (by decide)) (fun h => absurd h (by decide)) (fun h => absurd h (by decide)) (fun _ => M5) (fun h => absurd h (by decide)) (fun h => absurd h (by decide)) (fun h => absurd h (by decide))
  rw [if_neg e324]
  by_cases e773 : n = 773
  · rw [if_pos e773]
    exact wr 5 _ (fun h => absurd h (by decide)) (fun h => absurd h (by decide)) (fun h => absurd h (by decide)) (fun h => absurd h (by decide)) (fun _ => A4) (fun h => absurd h (by decide)) (fun h => absurd h (by decide))
  rw [if_neg e773]
  by_cases e261 : n = 261
  · rw [if_pos e261]
    exact wr 10 _ (fun h => absurd h (by decide)) (fun h => absurd h (by decide)) (fun h => absurd h (by decide)) (fun h => absurd h (by decide)) (fun _ => A4) (fun h => absurd h (by decide)) (fun h => absurd h (by decide))
  rw [if_neg e261]
  by_cases e832 : n = 832
  · rw [if_pos e832]
    exact wr 6 _ (fun h => absurd h (by decide)) (fun h => absurd h (by decide)) (fun h => absurd h (by decide)) (fun h => absurd h (by decide)) (fun h => absurd h (by decide)) (fun h => absurd h (by decide)) (fun h => absurd h (by decide))
  rw [if_neg e832]
  by_cases e320 : n = 320
  · rw [if_pos e320]
    exact wr 11 _ (fun h => absurd h (by decide)) (fun h => absurd h (by decide)) (fun h => absurd h (by decide)) (fun h => absurd h (by decide)) (fun h => absurd h (by decide)) (fun h => absurd h (by decide)) (fun h => absurd h (by decide))
  rw [if_neg e320]
  by_cases e833 : n = 833
  · rw [if_pos e833]
    exact wr 7 _ (fun h => absurd h (by decide)) (fun h => absurd h (by decide)) (fun h => absurd h (by decide)) (fun h => absurd h (by decide)) (fun h => absurd h (by decide)) (fun _ => A5) (fun h => absurd h (by decide))
  rw [if_neg e833]
  by_cases e321 : n = 321
  · rw [if_pos e321]
    exact wr 12 _ (fun h => absurd h (by decide)) (fun h => absurd h (by decide)) (fun h => absurd h (by decide)) (fun h => absurd h (by decide)) (fun h => absurd h (by decide)) (fun _ => A5) (fun h => absurd h (by decide))
  rw [if_neg e321]
  by_cases e834 : n = 834
  · rw [if_pos e834]
    exact wr 8 _ (fun h => absurd h (by decide)) (fun h => absurd h (by decide)) (fun h => absurd h (by decide)) (fun h => absurd h (by decide)) (fun h => absurd h (by decide)) (fun h => absurd h (by decide)) (fun h => absurd h (by decide))
  rw [if_neg e834]
  by_cases e322 : n = 322
  · rw [if_pos e322]
    exact wr 13 _ (fun h => absurd h (by decide)) (fun h => absurd h (by decide)) (fun h => absurd h (by decide)) (fun h => absurd h (by decide)) (fun h => absurd h (by decide)) (fun h => absurd h (by decide)) (fun h => absurd h (by decide))
  rw [if_neg e322]
  by_cases e835 : n = 835
  · rw [if_pos e835]
    exact wr 9 _ (fun h => absurd h (by decide)) (fun h => absurd h (by decide)) (fun h => absurd h (by decide)) (fun h => absurd h (by decide)) (fun h => absurd h (by decide)) (fun h => absurd h (by decide)) (fun h => absurd h (by decide))
  rw [if_neg e835]
  by_cases e323 : n = 323
  · rw [if_pos e323]
    exact wr 14 _ (fun h => absurd h (by decide)) (fun h => absurd h (by decide)) (fun h => absurd h (by decide)) (fun h => absurd h (by decide)) (fun h => absurd h (by decide)) (fun h => absurd h (by decide)) (fun h => absurd h (by decide))
  rw [if_neg e323]
  by_cases e384 : n = 384
  · rw [if_pos e384]
    by_cases hs : satpB x = true
    · rw [if_pos hs]; exact wr 15 _ (fun h => absurd h (by decide)) (fun h => absurd h (by decide)) (fun h => absurd h (by decide)) (fun h => absurd h (by decide)) (fun h => absurd h (by decide)) (fun h => absurd h (by decide)) (fun _ => hs)
    · rw [if_neg hs]; exact same
  rw [if_neg e384]
  by_cases e2816 : n = 2816
  · rw [if_pos e2816]
    exact wr 16 _ (fun h => absurd h (by decide)) (fun h => absurd h (by decide)) (fun h => absurd h (by decide)) (fun h => absurd h (by decide)) (fun h => absurd h (by decide)) (fun h => absurd h (by decide)) (fun h => absurd h (by decide))
  rw [if_neg e2816]
  exact same
theorem orn_bd (a m k : Nat) (ha : a < 2 ^ 64) (hm : m < 2 ^ 64) (hk : k < 2 ^ 64) (M K : Int) (hM : M = (m : Int)) (hK : K = (k : Int)) : bits .or .u64 (bits .andNot .u64 (a : Int) M) K = ((ndn a m ||| k : Nat) : Int) := by rw [l_not a ha m hm M hM, l_or _ (ndn_lt _ _ ha) k hk K hK]
theorem ora_bd (a m k : Nat) (ha : a < 2 ^ 64) (hm : m < 2 ^ 64) (hk : k < 2 ^ 64) (M K : Int) (hM : M = (m : Int)) (hK : K = (k : Int)) : bits .or .u64 (bits .and .u64 (a : Int) M) K = (((a &&& m) ||| k : Nat) : Int) := by rw [l_and a ha m hm M hM, l_or _ (and_lt _ _ ha) k hk K hK]
theorem valR_ok (c : Nat → Int) (hc : csOk c) (k : Nat) : 0 ≤ valR c k ∧ valR c k < 18446744073709551616 := by
  obtain ⟨s, hs, e0⟩ := nat_of (hc 0).1 (hc 0).2
  have v0 : 0 ≤ bits .or .u64 (bits .andNot .u64 (c 0) 64424509440) 42949672960 ∧ bits .or .u64 (bits .andNot .u64 (c 0) 64424509440) 42949672960 < 18446744073709551616 := by
    rw [e0, orn_bd s 64424509440 42949672960 hs (by decide) (by decide) 64424509440 42949672960 rfl rfl]
    exact cast_bd (or_lt (ndn_lt _ _ hs) (by decide))
  have v1 : 0 ≤ bits .or .u64 (bits .and .u64 (c 0) 786722) 8589934592 ∧ bits .or .u64 (bits .and .u64 (c 0) 786722) 8589934592 < 18446744073709551616 := by
    rw [e0, ora_bd s 786722 8589934592 hs (by decide) (by decide) 786722 8589934592 rfl rfl]
    exact cast_bd (or_lt (and_lt _ _ hs) (by decide))
  have v2 := and2_bd (c 3) (c 2) (hc 3).1 (hc 3).2 (hc 2).1 (hc 2).2
  have v3 := and2_bd (c 4) (c 2) (hc 4).1 (hc 4).2 (hc 2).1 (hc 2).2
  rcases Nat.lt_or_ge k 26 with hk | hk
  · obtain rfl | rfl | rfl | rfl | rfl | rfl | rfl | rfl | rfl | rfl | rfl | rfl | rfl | rfl | rfl | rfl | rfl | rfl | rfl | rfl | rfl | rfl | rfl | rfl | rfl | rfl : k = 0 ∨ k = 1 ∨ k = 2 ∨ k = 3 ∨ k = 4 ∨ k = 5 ∨ k = 6 ∨ k = 7 ∨ k = 8 ∨ k = 9 ∨ k = 10 ∨ k = 11 ∨ k = 12 ∨ k = 13 ∨ k = 14 ∨ k = 15 ∨ k = 16 ∨ k = 17 ∨ k = 18 ∨ k = 19 ∨ k = 20 ∨ k = 21 ∨ k = 22 ∨ k = 23 ∨ k = 24 ∨ k = 25 := by omega
    all_goals first
      | exact v0
      | exact v1
      | exact v2
      | exact v3
      | exact hc _
      | (show 0 ≤ (9223372036856090885 : Int) ∧ (9223372036856090885 : Int) < 18446744073709551616; decide)
      | (show 0 ≤ (0 : Int) ∧ (0 : Int) < 18446744073709551616; decide)
  · have : valR c k = 0 := by
      unfold valR
      rw [Array.getD_eq_getD_getElem?, Array.getElem?_eq_none (by simpa [valA] using hk)]
      rfl
    rw [this]
    decide

theorem B_status (s : Int) (s0 : 0 ≤ s) (s1 : s < 18446744073709551616) (h : keptV s = s) : keptV (bits .or .u64 (bits .andNot .u64 s 64424509440) 42949672960) = s := by
  obtain ⟨s, hs, rfl⟩ := nat_of s0 s1
  rw [keptV_nat s hs] at h
  rw [orn_bd s 64424509440 42949672960 hs (by decide) (by decide) 64424509440 42949672960 rfl rfl, keptV_nat _ (or_lt (ndn_lt _ _ hs) (by decide)), status_back s hs (by omega)]
theorem B_sstatus (s : Int) (s0 : 0 ≤ s) (s1 : s < 18446744073709551616) : mrg s (bits .or .u64 (bits .and .u64 s 786722) 8589934592) 786722 = s := by
  obtain ⟨s, hs, rfl⟩ := nat_of s0 s1
  rw [ora_bd s 786722 8589934592 hs (by decide) (by decide) 786722 8589934592 rfl rfl, l_mrg _ _ hs (or_lt (and_lt _ _ hs) (by decide)) 786722 (by decide) 786722 rfl, mrg_back s _ _ hs (by decide) (fun i hi => view_bit s 786722 8589934592 i hi (by decide))]
theorem B_view (o d m : Int) (o0 : 0 ≤ o) (o1 : o < 18446744073709551616) (d0 : 0 ≤ d) (d1 : d < 18446744073709551616) (n : Nat) (hn : n < 2 ^ 64) (hm : m = (n : Int)) : mrg o (bits .and .u64 o d) (bits .and .u64 d m) = o := by
  obtain ⟨o, ho, rfl⟩ := nat_of o0 o1
  obtain ⟨d, hd, rfl⟩ := nat_of d0 d1
  subst hm
  rw [b_and o d ho hd, b_and d n hd hn, b_mrg _ _ _ ho (and_lt _ _ ho) (and_lt _ _ hd), mrg_back o _ _ ho (and_lt _ _ hd) (fun i hi => ?_)]
  rw [Nat.testBit_and, Bool.and_eq_true] at hi
  exact both_bit o d i hi.1
theorem B_mip (o : Int) (o0 : 0 ≤ o) (o1 : o < 18446744073709551616) : mrg o o 546 = o := by
  obtain ⟨o, ho, rfl⟩ := nat_of o0 o1
  rw [l_mrg o o ho ho 546 (by decide) 546 rfl, mrg_back o o 546 ho (by decide) (fun _ _ => rfl)]
theorem B_and (x : Int) (h0 : 0 ≤ x) (h1 : x < 18446744073709551616) (m : Nat) (hm : m < 2 ^ 64) (M : Int) (hM : M = (m : Int)) (h : bits .andNot .u64 x M = 0) : bits .and .u64 x M = x := by
  obtain ⟨x, hx, rfl⟩ := nat_of h0 h1
  subst hM
  rw [b_not x m hx hm] at h
  rw [b_and x m hx hm, and_within x m hx hm (by omega)]
set_option maxRecDepth 100000 in
theorem wrV_back (c : Nat → Int) (hc : csOk c) (k : Nat) (hk : k < 26) (hb : chkB c = true) : wrV c (nmR k) (valR c k) = c := by
  simp only [chkB, Bool.and_eq_true, beq_iff_eq] at hb
  obtain ⟨f0, f1, f2, f3, f4, f5, f6, f7, f8, f9⟩ := hb
  have b0 := B_status (c 0) (hc 0).1 (hc 0).2 f0
  have b1 := B_sstatus (c 0) (hc 0).1 (hc 0).2
  have b2 := B_view (c 3) (c 2) 2730 (hc 3).1 (hc 3).2 (hc 2).1 (hc 2).2 2730 (by decide) rfl
  have b3 := B_view (c 4) (c 2) 2 (hc 4).1 (hc 4).2 (hc 2).1 (hc 2).2 2 (by decide) rfl
  have b4 := B_mip (c 4) (hc 4).1 (hc 4).2
  have a1 := B_and (c 1) (hc 1).1 (hc 1).2 46079 (by decide) 46079 rfl f1
  have a2 := B_and (c 2) (hc 2).1 (hc 2).2 546 (by decide) 546 rfl f2
  have a3 := B_and (c 3) (hc 3).1 (hc 3).2 2730 (by decide) 2730 rfl f3
  have a5 := B_and (c 5) (hc 5).1 (hc 5).2 18446744073709551613 (by decide) 18446744073709551613 rfl f5
  have a6 := B_and (c 10) (hc 10).1 (hc 10).2 18446744073709551613 (by decide) 18446744073709551613 rfl f6
  have a7 := B_and (c 7) (hc 7).1 (hc 7).2 18446744073709551614 (by decide) 18446744073709551614 rfl f7
  have a8 := B_and (c 12) (hc 12).1 (hc 12).2 18446744073709551614 (by decide) 18446744073709551614 rfl f8
  obtain rfl | rfl | rfl | rfl | rfl | rfl | rfl | rfl | rfl | rfl | rfl | rfl | rfl | rfl | rfl | rfl | rfl | rfl | rfl | rfl | rfl | rfl | rfl | rfl | rfl | rfl : k = 0 ∨ k = 1 ∨ k = 2 ∨ k = 3 ∨ k = 4 ∨ k = 5 ∨ k = 6 ∨ k = 7 ∨ k = 8 ∨ k = 9 ∨ k = 10 ∨ k = 11 ∨ k = 12 ∨ k = 13 ∨ k = 14 ∨ k = 15 ∨ k = 16 ∨ k = 17 ∨ k = 18 ∨ k = 19 ∨ k = 20 ∨ k = 21 ∨ k = 22 ∨ k = 23 ∨ k = 24 ∨ k = 25 := by omega
  all_goals simp [wrV, nmR, numR, valR, valA, b0, b1, b2, b3, b4, a1, a2, a3, a5, a6, a7, a8, f9, upd_same]
theorem T_mrg (o x m : Int) (o0 : 0 ≤ o) (o1 : o < 18446744073709551616) (h0 : 0 ≤ x) (h1 : x < 18446744073709551616) (m0 : 0 ≤ m) (m1 : m < 18446744073709551616) : mrg (mrg o x m) x m = mrg o x m := by
  obtain ⟨o, ho, rfl⟩ := nat_of o0 o1
  obtain ⟨x, hx, rfl⟩ := nat_of h0 h1
  obtain ⟨m, hm, rfl⟩ := nat_of m0 m1
  rw [b_mrg o x m ho hx hm, b_mrg _ x m (mrgN_lt _ _ _ ho hx) hx hm, mrg_twice o x m ho hx hm]
set_option maxRecDepth 100000 in
theorem wrV_twice (c : Nat → Int) (hc : csOk c) (n x : Int) (h0 : 0 ≤ x) (h1 : x < 18446744073709551616) : wrV (wrV c n x) n x = wrV c n x := by
  have d1 := and2_bd (c 2) 2730 (hc 2).1 (hc 2).2 (by decide) (by decide)
  have d2 := and2_bd (c 2) 2 (hc 2).1 (hc 2).2 (by decide) (by decide)
  have t0 := T_mrg (c 0) x 786722 (hc 0).1 (hc 0).2 h0 h1 (by decide) (by decide)
  have t3 := T_mrg (c 3) x _ (hc 3).1 (hc 3).2 h0 h1 d1.1 d1.2
  have t4 := T_mrg (c 4) x 546 (hc 4).1 (hc 4).2 h0 h1 (by decide) (by decide)
  have t5 := T_mrg (c 4) x _ (hc 4).1 (hc 4).2 h0 h1 d2.1 d2.2
  by_cases e768 : n = 768
  · subst e768
    simp only [wrV, Int.reduceEq, if_true, if_false, upd_upd, upd_at, t0, t3, t4, t5, Nat.reduceEqDiff]
  by_cases e256 : n = 256
  · subst e256
    simp only [wrV, Int.reduceEq, if_true, if_false, upd_upd, upd_at, t0, t3, t4, t5, Nat.reduceEqDiff]
  by_cases e770 : n = 770
  · subst e770
    simp only [wrV, Int.reduceEq, if_true, if_false, upd_upd, upd_at, t0, t3, t4, t5, Nat.reduceEqDiff]
  by_cases e771 : n = 771
  · subst e771
    simp only [wrV, Int.reduceEq, if_true, if_false, upd_upd, upd_at, t0, t3, t4, t5, Nat.reduceEqDiff]
  by_cases e772 : n = 772
  · subst e772
    simp only [wrV, Int.reduceEq, if_true, if_false, upd_upd, upd_at, t0, t3, t4, t5, Nat.reduceEqDiff]
  by_cases e260 : n = 260
  · subst e260
    simp only [wrV, Int.reduceEq, if_true, if_false, upd_upd, upd_at, t0, t3, t4, t5, Nat.reduceEqDiff]
  by_cases e836 : n = 836
  · subst e836
    simp only [wrV, Int.reduceEq, if_true, if_false, upd_upd, upd_at, t0, t3, t4, t5, Nat.reduceEqDiff]
  by_cases e324 : n = 324
  · subst e324
    simp only [wrV, Int.reduceEq, if_true, if_false, upd_upd, upd_at, t0, t3, t4, t5, Nat.reduceEqDiff]
  by_cases e773 : n = 773
  · subst e773
    simp only [wrV, Int.reduceEq, if_true, if_false, upd_upd, upd_at, t0, t3, t4, t5, Nat.reduceEqDiff]
  by_cases e261 : n = 261
  · subst e261
    simp only [wrV, Int.reduceEq, if_true, if_false, upd_upd, upd_at, t0, t3, t4, t5, Nat.reduceEqDiff]
  by_cases e832 : n = 832
  · subst e832
    simp only [wrV, Int.reduceEq, if_true, if_false, upd_upd, upd_at, t0, t3, t4, t5, Nat.reduceEqDiff]
  by_cases e320 : n = 320
  · subst e320
    simp only [wrV, Int.reduceEq, if_true, if_false, upd_upd, upd_at, t0, t3, t4, t5, Nat.reduceEqDiff]
  by_cases e833 : n = 833
  · subst e833
    simp only [wrV, Int.reduceEq, if_true, if_false, upd_upd, upd_at, t0, t3, t4, t5, Nat.reduceEqDiff]
  by_cases e321 : n = 321
  · subst e321
    simp only [wrV, Int.reduceEq, if_true, if_false, upd_upd, upd_at, t0, t3, t4, t5, Nat.reduceEqDiff]
  by_cases e834 : n = 834
  · subst e834
    simp only [wrV, Int.reduceEq, if_true, if_false, upd_upd, upd_at, t0, t3, t4, t5, Nat.reduceEqDiff]
  by_cases e322 : n = 322
  · subst e322
    simp only [wrV, Int.reduceEq, if_true, if_false, upd_upd, upd_at, t0, t3, t4, t5, Nat.reduceEqDiff]
  by_cases e835 : n = 835
  · subst e835
    simp only [wrV, Int.reduceEq, if_true, if_false, upd_upd, upd_at, t0, t3, t4, t5, Nat.reduceEqDiff]
  by_cases e323 : n = 323
  · subst e323
    simp only [wrV, Int.reduceEq, if_true, if_false, upd_upd, upd_at, t0, t3, t4, t5, Nat.reduceEqDiff]
  by_cases e384 : n = 384
  · subst e384
    simp only [wrV, Int.reduceEq, if_true, if_false]
    split
    · rw [upd_upd]
    · rfl
  by_cases e2816 : n = 2816
  · subst e2816
    simp only [wrV, Int.reduceEq, if_true, if_false, upd_upd, upd_at, t0, t3, t4, t5, Nat.reduceEqDiff]
  simp only [wrV, e768, e256, e770, e771, e772, e260, e836, e324, e773, e261, e832, e320, e833, e321, e834, e322, e835, e323, e384, e2816, if_false]
theorem hid_after (c : Nat → Int) (n p x : Int) : hidB (wrV c n x) n p = hidB c n p := by
  unfold hidB
  by_cases h : n = 384
  · subst h
    have : (wrV c 384 x) 0 = c 0 := by
      simp only [wrV, Int.reduceEq, if_true, if_false]
      split <;> rfl
    rw [this]
  · have h' : (n == 384) = false := by simpa using h
    rw [h']
    rfl
theorem wrB_after (c : Nat → Int) (n p x : Int) : wrB (wrV c n x) n p = wrB c n p := by
  unfold wrB rdB
  rw [hid_after]
theorem lv_mod : ((List.range 26).all fun k => lvV (nmR k) == nmR k / 256 % 4) = true := by kernel_rfl
theorem ro_lt : ((List.range 26).all fun k => roB (nmR k) || decide (nmR k < 3072)) = true := by kernel_rfl
theorem level_of_rd {c : Nat → Int} {k : Nat} (hk : k < 26) {p : Int} (h : rdB c (nmR k) p = true) : decide (nmR k / 256 % 4 ≤ p) = true := by
  have e := eq_of_beq (List.all_eq_true.1 lv_mod k (List.mem_range.2 hk))
  simp only [rdB, Bool.and_eq_true, Bool.not_eq_true', decide_eq_false_iff_not] at h
  rw [decide_eq_true_eq, ← e]
  have := h.2.1
  omega
theorem below_of_wr {c : Nat → Int} {k : Nat} (hk : k < 26) {p : Int} (h : wrB c (nmR k) p = true) : decide (nmR k < 3072) = true := by
  have e := List.all_eq_true.1 ro_lt k (List.mem_range.2 hk)
  simp only [wrB, Bool.and_eq_true, Bool.not_eq_true'] at h
  rw [h.2] at e
  simpa using e

/-! ### the supervisor's view of the status -/
theorem W_apart (s x : Int) (s0 : 0 ≤ s) (s1 : s < 18446744073709551616) (h0 : 0 ≤ x) (h1 : x < 18446744073709551616) :
    (bits .andNot .u64 (bits .xor .u64 (bits .or .u64 (bits .andNot .u64 s 64424509440) 42949672960) (bits .or .u64 (bits .andNot .u64 (mrg s x 786722) 64424509440) 42949672960)) 786722 == 0) = true := by
  obtain ⟨s, hs, rfl⟩ := nat_of s0 s1
  obtain ⟨x, hx, rfl⟩ := nat_of h0 h1
  rw [l_mrg s x hs hx 786722 (by decide) 786722 rfl, orn_bd s 64424509440 42949672960 hs (by decide) (by decide) 64424509440 42949672960 rfl rfl, orn_bd _ 64424509440 42949672960 (mrgN_lt _ _ _ hs hx) (by decide) (by decide) 64424509440 42949672960 rfl rfl,
    b_xor _ _ (or_lt (ndn_lt _ _ hs) (by decide)) (or_lt (ndn_lt _ _ (mrgN_lt _ _ _ hs hx)) (by decide)),
    l_not _ (Nat.xor_lt_two_pow (or_lt (ndn_lt _ _ hs) (by decide)) (or_lt (ndn_lt _ _ (mrgN_lt _ _ _ hs hx)) (by decide))) 786722 (by decide) 786722 rfl, view_apart s x hs hx]
  rfl
theorem W_now (s x : Int) (s0 : 0 ≤ s) (s1 : s < 18446744073709551616) (h0 : 0 ≤ x) (h1 : x < 18446744073709551616) :
    (bits .and .u64 (bits .or .u64 (bits .andNot .u64 (mrg s x 786722) 64424509440) 42949672960) 786722 == bits .and .u64 x 786722) = true := by
  obtain ⟨s, hs, rfl⟩ := nat_of s0 s1
  obtain ⟨x, hx, rfl⟩ := nat_of h0 h1
  rw [l_mrg s x hs hx 786722 (by decide) 786722 rfl, orn_bd _ 64424509440 42949672960 (mrgN_lt _ _ _ hs hx) (by decide) (by decide) 64424509440 42949672960 rfl rfl, l_and _ (or_lt (ndn_lt _ _ (mrgN_lt _ _ _ hs hx)) (by decide)) 786722 (by decide) 786722 rfl, l_and x hx 786722 (by decide) 786722 rfl, view_now s x hs hx]
  simp
theorem W_seen (s x : Int) (s0 : 0 ≤ s) (s1 : s < 18446744073709551616) (h0 : 0 ≤ x) (h1 : x < 18446744073709551616) :
    (bits .and .u64 (bits .or .u64 (bits .and .u64 (mrg s x 786722) 786722) 8589934592) 786722 == bits .and .u64 x 786722) = true := by
  obtain ⟨s, hs, rfl⟩ := nat_of s0 s1
  obtain ⟨x, hx, rfl⟩ := nat_of h0 h1
  rw [l_mrg s x hs hx 786722 (by decide) 786722 rfl, ora_bd _ 786722 8589934592 (mrgN_lt _ _ _ hs hx) (by decide) (by decide) 786722 8589934592 rfl rfl, l_and _ (or_lt (and_lt _ _ (mrgN_lt _ _ _ hs hx)) (by decide)) 786722 (by decide) 786722 rfl, l_and x hx 786722 (by decide) 786722 rfl, view_seen s x hs]
  simp
end Go.Proofs.YtpehfmchcjanhaaDoor
