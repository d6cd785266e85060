/-
  Package dns: a label of a message, the number of a refusal.
-/
import Derived.Test.YtnafdgpkofffaaaDoorDnB
import Derived.Test.YtnafdgpkofffaaaDoorDnAs
import Derived.Test.YtnafdgpkofffaaaDoorIpL
set_option maxRecDepth 4000
set_option linter.unusedVariables false
set_option linter.unusedSimpArgs false
namespace Go.Proofs.YtnafdgpkofffaaaDoor
open Go.RowKit

/-- Why no label stands at byte k. -/
def labE (b : List Int) (k : Nat) : Int := if ¬ k < b.length then 160 else if 63 < b.getD k 0 then 161 else (labF (b.getD k 0).toNat (b.drop (k + 1))).2
theorem labF_short {k : Nat} {b : List Int} (h : 0 < k) (h2 : b = []) : (labF k b).2 = 160 := by
  subst h2
  obtain ⟨j, rfl⟩ : ∃ j, k = j + 1 := ⟨k - 1, by omega⟩
  rfl
theorem labF_zero (b : List Int) : (labF 0 b).2 = 0 := by cases b <;> rfl
theorem labelAt_none (a : Option Addr) (n c : Nat) (w : World) :
    Calls Tryd.prog 42 #[.slice a n c, .int .i64 (n : Int)] w fun e w' => ∃ s, e = .returned (.tuple #[.string ⟨#[]⟩, .iface 62 (.agg #[.int .i64 160, .int .i64 n, .string s])]) ∧ Grew w w' := by
  go_enter Tryd.func42, Tryd.ntmps42
  go_wp2_with fail
  go_ret2
  exact ⟨_, rfl, Grew.refl _⟩
theorem labelAt_long {xs : List Int} {a : Option Addr} {c : Nat} (k : Nat) (hk : k < xs.length) (hl : xs.length ≤ 140737488355328) (h : 63 < xs.getD k 0) {w : World} (hb : Buf w (.slice a xs.length c) xs) :
    Calls Tryd.prog 42 #[.slice a xs.length c, .int .i64 (k : Int)] w fun e w' => ∃ n s, e = .returned (.tuple #[.string ⟨#[]⟩, .iface 62 (.agg #[.int .i64 161, .int .i64 n, .string s])]) ∧ Grew w w' := by
  obtain ⟨_, _, ea, hc, hat⟩ := hb.shape
  simp only [Value.slice.injEq] at ea
  obtain ⟨rfl, hn', rfl⟩ := ea
  clear hn'
  have hne : xs ≠ [] := by rintro rfl; simp at hk
  obtain ⟨bk, off, rfl, hat2⟩ := hat hne
  have x0 := hat2 k hk
  have hz0 := hb.ok.getD k
  obtain ⟨m, hm⟩ : ∃ m : Nat, xs.getD k 0 = (m : Int) := ⟨(xs.getD k 0).toNat, by omega⟩
  rw [hm] at x0 hz0 h
  clear hat hat2 hne hb hm hc
  generalize xs.length = n at *
  have ekn : ((k : Int) == (n : Int)) = false := by rw [beq_eq_false_iff_ne]; omega
  have ekn2 : (k == n) = false := by rw [beq_eq_false_iff_ne]; omega
  have ekn3 : ¬ k = n := by omega
  have hki : (k : Int) < (n : Int) := by omega
  obtain ⟨fr, hfr⟩ : ∃ fr : Nat, fr = k + 1 := ⟨_, rfl⟩
  obtain ⟨en, hen⟩ : ∃ en : Nat, en = fr + m := ⟨_, rfl⟩
  have hw1 : wrap64 ((k : Int) + 1) = (fr : Int) := by rw [IntWalk.wrap64_in _ (by omega)]; omega
  have hw2 : wrap64 ((fr : Int) + (m : Int)) = (en : Int) := by rw [IntWalk.wrap64_in _ (by omega)]; omega
  have hw3 : wrap64 ((fr : Int) + 63) = (fr : Int) + 63 := IntWalk.wrap64_in _ (by omega)
  have ew : IntKind.i64.wrap (m : Int) = (m : Int) := IntWalk.i64_in _ (by omega)
  have hlt : (fr : Int) + 63 < (en : Int) := by omega
  clear hfr hen hz0 h hl
  go_enter Tryd.func42, Tryd.ntmps42
  go_wp2_with fail
  go_ret2
  exact ⟨_, _, rfl, Grew.refl _⟩
set_option maxHeartbeats 2000000 in
theorem labelAt_in {xs : List Int} {a : Option Addr} {c : Nat} (k : Nat) (hk : k < xs.length) (hl : xs.length ≤ 140737488355328) (h : ¬ 63 < xs.getD k 0) {w : World} (hb : Buf w (.slice a xs.length c) xs) (C : Int) (hC : C = (labF (xs.getD k 0).toNat (xs.drop (k + 1))).2) :
    Calls Tryd.prog 42 #[.slice a xs.length c, .int .i64 (k : Int)] w fun e w' => (C = 0 ∧ e = .returned (.tuple #[.string (strOfNums (cutL xs (k + 1) (k + 1 + (xs.getD k 0).toNat))), .nilIface]) ∧ Grew w w') ∨ (C ≠ 0 ∧ ∃ n s, e = .returned (.tuple #[.string ⟨#[]⟩, .iface 62 (.agg #[.int .i64 C, .int .i64 n, .string s])]) ∧ Grew w w') := by
  obtain ⟨_, _, ea, hc, hat⟩ := hb.shape
  simp only [Value.slice.injEq] at ea
  obtain ⟨rfl, hn', rfl⟩ := ea
  clear hn'
  have hne : xs ≠ [] := by rintro rfl; simp at hk
  obtain ⟨bk, off, rfl, hat2⟩ := hat hne
  have x0 := hat2 k hk
  have hz0 := hb.ok.getD k
  have HOK := Lib.hid hb.ok
  have HB := Lib.hid hb
  have HAT := Lib.hid hat2
  obtain ⟨m, hm⟩ : ∃ m : Nat, xs.getD k 0 = (m : Int) := ⟨(xs.getD k 0).toNat, by omega⟩
  rw [hm, Int.toNat_natCast] at hC ⊢
  rw [hm] at x0 hz0 h
  have HC0 := Lib.hid hC
  clear hat hat2 hne hb hm hC
  obtain ⟨n, hn⟩ : ∃ n, n = xs.length := ⟨_, rfl⟩
  have HN := Lib.hid hn
  rw [← hn] at hk hl hc ⊢
  clear hn
  have ekn : ((k : Int) == (n : Int)) = false := by rw [beq_eq_false_iff_ne]; omega
  have ekn2 : (k == n) = false := by rw [beq_eq_false_iff_ne]; omega
  have ekn3 : ¬ k = n := by omega
  have hki : (k : Int) < (n : Int) := by omega
  obtain ⟨fr, hfr⟩ : ∃ fr : Nat, fr = k + 1 := ⟨_, rfl⟩
  obtain ⟨en, hen⟩ : ∃ en : Nat, en = fr + m := ⟨_, rfl⟩
  have hw1 : wrap64 ((k : Int) + 1) = (fr : Int) := by rw [IntWalk.wrap64_in _ (by omega)]; omega
  have hw2 : wrap64 ((fr : Int) + (m : Int)) = (en : Int) := by rw [IntWalk.wrap64_in _ (by omega)]; omega
  have hw3 : wrap64 ((fr : Int) + 63) = (fr : Int) + 63 := IntWalk.wrap64_in _ (by omega)
  have ew : IntKind.i64.wrap (m : Int) = (m : Int) := IntWalk.i64_in _ (by omega)
  have hlt : ¬ (fr : Int) + 63 < (en : Int) := by omega
  rw [← hfr, ← hen]
  have hem : m = en - fr := by omega
  have HC : Hid (C = (labF (en - fr) (xs.drop fr)).2) := Lib.hid (by rw [← hem, hfr]; exact HC0.out)
  have hfe : fr ≤ en := by omega
  have hfn : fr ≤ n := by omega
  have hen2 : en ≤ 140737488356000 := by omega
  clear hfr hen hz0 h hl hk HC0 hem
  go_enter Tryd.func42, Tryd.ntmps42
  go_upto_region 8 with fail
  clear hw1 hw2 hw3 ew hlt
  go_loopw [8] (fun i wr => ∃ ii : Nat, i = .int .i64 (ii : Int) ∧ fr ≤ ii ∧ ii ≤ en ∧ ii ≤ n ∧ Hid (C = (labF (en - ii) (xs.drop ii)).2) ∧ wr = w) (fun i _ => (en - intOf i).toNat)
  case atStart => exact ⟨fr, rfl, Nat.le_refl _, hfe, hfn, HC, rfl⟩
  case round =>
    obtain ⟨ii, rfl, h1, h2, h3, HCi, rfl⟩ := hrel
    clear HC
    by_cases hin : ii < en
    · have hin' : (ii : Int) < (en : Int) := by omega
      by_cases hsh : ii = n
      · have HCR : Hid (C = 160) := Lib.hid (by rw [HCi.out]; exact labF_short (by omega) (List.drop_eq_nil_of_le (by rw [← HN.out]; omega)))
        have esh : ((ii : Int) == (n : Int)) = true := by rw [beq_iff_eq]; omega
        have esh2 : (ii == n) = true := by rw [beq_iff_eq]; omega
        clear hsh
        go_wp2_with fail
        go_ret2
        rw [HCR.out]
        exact .inr ⟨by decide, _, _, rfl, Grew.refl _⟩
      · have esh : ((ii : Int) == (n : Int)) = false := by rw [beq_eq_false_iff_ne]; omega
        have esh2 : (ii == n) = false := by rw [beq_eq_false_iff_ne]; omega
        have hsn : ii < n := by omega
        have hsn' : (ii : Int) < (n : Int) := by omega
        have x1 := HAT.out ii (by rw [← HN.out]; exact hsn)
        have hcz := HOK.out.getD ii
        have hlt9 := fun w' => isLetter_c (xs.getD ii 0) hcz w'
        have hd : xs.drop ii = xs.getD ii 0 :: xs.drop (ii + 1) := drop_cons (by rw [← HN.out]; exact hsn)
        have he : en - ii = (en - (ii + 1)) + 1 := by omega
        cases hlv : (letV (xs.getD ii 0)).2
        · have HCR : Hid (C = 161) := Lib.hid (by rw [HCi.out, hd, he, labF_bad1 hlv])
          rw [hlv] at hlt9
          have HLT := Lib.hid hlt9
          clear hlt9 hd he hlv
          generalize xs.getD ii 0 = cc at *
          go_wp2_with fail
          refine (HLT.out _).mono ?_
          rintro e wx ⟨rfl, hx⟩
          obtain rfl := hx.symm
          go_wp2_with fail
          go_ret2
          rw [HCR.out]
          exact .inr ⟨by decide, _, _, rfl, Grew.refl _⟩
        · have HNX : Hid (C = (labF (en - (ii + 1)) (xs.drop (ii + 1))).2) := Lib.hid (by rw [HCi.out, hd, he, labF_ok1 hlv])
          rw [hlv] at hlt9
          have HLT := Lib.hid hlt9
          clear hlt9 hd he hlv
          generalize xs.getD ii 0 = cc at *
          have hw9 : wrap64 ((ii : Int) + 1) = (ii : Int) + 1 := IntWalk.wrap64_in _ (by omega)
          go_wp2_with fail
          refine (HLT.out _).mono ?_
          rintro e wx ⟨rfl, hx⟩
          obtain rfl := hx.symm
          go_wp2_with fail
          go_round
          case rel => exact ⟨ii + 1, by go_num, by omega, by omega, by omega, HNX, by first | rfl | trivial⟩
          case measure => simp [intOf]; omega
    · have hin' : ¬ (ii : Int) < (en : Int) := by omega
      have HCR : Hid (C = 0) := Lib.hid (by rw [HCi.out, show en - ii = 0 by omega]; exact labF_zero _)
      obtain ⟨a1, c1, H1, z1, hrun, z2, z4⟩ := HB.out.run_cut (lo := fr) (hi := en) hfe (by rw [← HN.out]; omega)
      have hsl : ∀ w', (Instr.sliceAt 22 (.slice (some ⟨bk, off, none⟩) n c) (some (.int .i64 (fr : Int))) (some (.int .i64 (en : Int))) none).run Tryd.prog w' = .ok (.slice a1 (en - fr) c1) w' := fun w' => by rw [HN.out]; exact hrun .i64 .i64 w'
      have hcv := convert_bytes H1.bytes
      clear z1 z2 hrun z4 H1
      go_wp2_with fail
      go_ret2
      exact .inl ⟨HCR.out, rfl, Grew.refl _⟩
/-- Which label stands at byte k, or why none does. -/
theorem labelAt_c {xs : List Int} {a : Option Addr} {n c : Nat} (k : Nat) (hk : k ≤ xs.length) (hl : xs.length ≤ 140737488355328) {w : World} (hb : Buf w (.slice a n c) xs) :
    Calls Tryd.prog 42 #[.slice a n c, .int .i64 (k : Int)] w fun e w' => (labE xs k = 0 ∧ e = .returned (.tuple #[.string (strOfNums (cutL xs (k + 1) (k + 1 + (xs.getD k 0).toNat))), .nilIface]) ∧ Grew w w') ∨ (labE xs k ≠ 0 ∧ ∃ n s, e = .returned (.tuple #[.string ⟨#[]⟩, .iface 62 (.agg #[.int .i64 (labE xs k), .int .i64 n, .string s])]) ∧ Grew w w') := by
  obtain rfl := hb.lenEq.1
  by_cases h0 : k < xs.length
  · by_cases h1 : 63 < xs.getD k 0
    · have e : labE xs k = 161 := by unfold labE; rw [if_neg (by omega), if_pos h1]
      rw [e]
      exact (labelAt_long k h0 hl h1 hb).mono fun _ _ ⟨n, s, he, g⟩ => .inr ⟨by decide, n, s, he, g⟩
    · have e : labE xs k = (labF (xs.getD k 0).toNat (xs.drop (k + 1))).2 := by unfold labE; rw [if_neg (by omega), if_neg h1]
      exact labelAt_in k h0 hl h1 hb _ e
  · have e : labE xs k = 160 := by unfold labE; rw [if_pos h0]
    obtain rfl : k = xs.length := by omega
    rw [e]
    exact (labelAt_none a _ c w).mono fun _ _ ⟨s, he, g⟩ => .inr ⟨by decide, _, s, he, g⟩
theorem number_nil (w : World) : Calls Tryd.prog 24 #[.nilIface] w fun e w' => e = .returned (.int .i64 0) ∧ Grew w w' := by
  go_enter Tryd.func24, Tryd.ntmps24
  go_upto_region 2 with fail
  have hX : Blk (w.alloc (.cells #[.int .i64 0, .int .i64 0, .string ⟨#[]⟩] 62)) w.heap.size #[.int .i64 0, .int .i64 0, .string ⟨#[]⟩] 62 := Blk.new _ _ _ _ rfl
  have g0 : Grew w (w.alloc (.cells #[.int .i64 0, .int .i64 0, .string ⟨#[]⟩] 62)) := (Grew.refl _).alloc _
  generalize (w.alloc (.cells #[.int .i64 0, .int .i64 0, .string ⟨#[]⟩] 62)) = w0 at *
  generalize hlX : w.heap.size = X at *
  go_wp2_with fail
  refine (as_nil _ _).mono ?_
  rintro e w1 ⟨rfl, h1⟩
  obtain rfl := h1.symm
  go_wp2_with fail
  go_ret
  exact ⟨rfl, g0⟩
theorem number_hit (k n : Int) (s : ByteArray) {w : World} (sn : SenW w) : Calls Tryd.prog 24 #[.iface 62 (.agg #[.int .i64 k, .int .i64 n, .string s])] w fun e w' => e = .returned (.int .i64 k) ∧ Grew w w' := by
  go_enter Tryd.func24, Tryd.ntmps24
  go_upto_region 2 with fail
  have hX : Blk (w.alloc (.cells #[.int .i64 0, .int .i64 0, .string ⟨#[]⟩] 62)) w.heap.size #[.int .i64 0, .int .i64 0, .string ⟨#[]⟩] 62 := Blk.new _ _ _ _ rfl
  have g0 : Grew w (w.alloc (.cells #[.int .i64 0, .int .i64 0, .string ⟨#[]⟩] 62)) := (Grew.refl _).alloc _
  generalize (w.alloc (.cells #[.int .i64 0, .int .i64 0, .string ⟨#[]⟩] 62)) = w0 at *
  generalize hlX : w.heap.size = X at *
  go_wp2_with fail
  refine (as_hit _ _ _ (sn.grew g0) hX rfl).mono ?_
  rintro e w1 ⟨rfl, hX1, t1⟩
  have G1 : Grew w w1 := t1.grew g0 (by omega)
  have y0 := hX1.cell 0
  go_wp2_with fail
  go_ret
  exact ⟨rfl, G1⟩
end Go.Proofs.YtnafdgpkofffaaaDoor
