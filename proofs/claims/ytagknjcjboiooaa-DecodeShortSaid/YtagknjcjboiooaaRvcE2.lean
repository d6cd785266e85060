/-
  Contracts of the document's own text about compressed instructions.
-/
import Derived.Test.YtagknjcjboiooaaDecA
import Derived.Test.YtagknjcjboiooaaRvcR2
set_option linter.unusedVariables false
set_option linter.unusedSimpArgs false
namespace Go.Proofs.Ytagknjcjboiooaa
open Go.RowKit

theorem rf (h : Nat) (hh : h < 65536) (hi lo : Int) (h0 : 0 ≤ lo) (h1 : lo ≤ hi) (h2 : hi ≤ 63) (w : World) :
    Calls Try.prog 26 #[.int .u16 h, .int .i64 hi, .int .i64 lo] w fun e w' => e = .returned (.int .u32 (fN h hi lo : Nat)) ∧ w' = w := by
  have e := fN_field h hi lo h0 h1 h2
  have H := Lib.hid e
  have b : fN h hi lo < 65536 := Nat.lt_of_le_of_lt (Nat.le_trans (Nat.mod_le _ _) (Nat.div_le_self _ _)) hh
  have b2 : ((fN h hi lo : Nat) : Int) % 4294967296 = fN h hi lo := by omega
  have B2 := Lib.hid b2
  clear e b2
  go_enter Try.func26, Try.ntmps26
  go_wp2_with fail
  refine (refField_c (h : Int) hi lo (by omega) (by omega) _).mono ?_
  rintro e w' ⟨rfl, rfl⟩
  rw [H.out]
  go_wp2_with fail
  go_ret
  exact ⟨rfl, rfl⟩
theorem rsext (x : Nat) (hx : x < 4294967296) (n : Int) (h1 : 1 ≤ n) (h2 : n ≤ 63) (w : World) :
    Calls Try.prog 29 #[.int .u32 x, .int .i64 n] w fun e w' => e = .returned (.int .u32 (sxR x n : Nat)) ∧ w' = w := by
  have e := sxN_sext x n h1 h2
  have H := Lib.hid e
  clear e
  go_enter Try.func29, Try.ntmps29
  go_wp2_with fail
  refine (refSext_c (x : Int) n (by omega) (by omega) _).mono ?_
  rintro e w' ⟨rfl, rfl⟩
  rw [H.out]
  go_wp2_with fail
  go_ret
  exact ⟨ret_u32 (by unfold sxR; omega), rfl⟩
theorem rdR_lt (h : Nat) : rdR h < 32 := fN_lt _ _ _ _ (by decide)
theorem hrR_lt (h : Nat) : hrR h < 32 := by
  have b1 := fN_lt h 12 12 2 (by decide)
  have b2 := rdR_lt h
  unfold hrR
  obtain e | e : fN h 12 12 = 0 ∨ fN h 12 12 = 1 := by omega
  all_goals rw [e]; omega
theorem hrR_eq (h : Nat) : IntKind.u32.wrap (((fN h 12 12 : Nat) : Int) * ((rdR h : Nat) : Int)) = ((hrR h : Nat) : Int) := by
  have b := hrR_lt h
  rw [show ((fN h 12 12 : Nat) : Int) * ((rdR h : Nat) : Int) = ((hrR h : Nat) : Int) by unfold hrR; simp]
  exact wrap32c _ (by omega)
theorem luR_or (x rd : Nat) (h : rd < 32) : bits .or .u32 (bits .or .u32 ((x : Int) * 4096 % 4294967296) ((rd : Int) * 128)) 55 = ((luR x rd : Nat) : Int) := by
  unfold luR
  have e : (x : Int) * 4096 % 4294967296 = ((x * 4096 % 4294967296 : Nat) : Int) := by omega
  have b : x * 4096 % 4294967296 < 4294967296 := Nat.mod_lt _ (by decide)
  rw [e]
  simp (disch := (repeat (first | omega | apply or32_lt))) only [mulc, or32, or32_lit]
theorem ritype (imm rs1 f rd op : Nat) (h_imm : imm < 4294967296) (h_rs1 : rs1 < 32) (h_f : f < 8) (h_rd : rd < 32) (h_op : op < 128) (w : World) :
    Calls Try.prog 27 #[.int .u32 imm, .int .u32 rs1, .int .u32 f, .int .u32 rd, .int .u32 op] w fun e w' => e = .returned (.int .u32 (itR imm rs1 f rd op : Nat)) ∧ w' = w := by
  go_enter Try.func27, Try.ntmps27
  go_wp2_with fail
  go_ret
  refine ⟨ret_u32 ?_, rfl⟩
  unfold itR
  simp (disch := (repeat (first | omega | apply or64_lt | apply or32_lt))) only [mulc, modc, divc, or32, or32_lit, wrap32c]

theorem rstype (imm rs2 rs1 f : Nat) (h_imm : imm < 4294967296) (h_rs2 : rs2 < 32) (h_rs1 : rs1 < 32) (h_f : f < 8) (w : World) :
    Calls Try.prog 28 #[.int .u32 imm, .int .u32 rs2, .int .u32 rs1, .int .u32 f] w fun e w' => e = .returned (.int .u32 (stR imm rs2 rs1 f : Nat)) ∧ w' = w := by
  go_enter Try.func28, Try.ntmps28
  go_wp2_with fail
  go_ret
  refine ⟨ret_u32 ?_, rfl⟩
  unfold stR
  simp (disch := (repeat (first | omega | apply or64_lt | apply or32_lt))) only [mulc, modc, divc, or32, or32_lit, wrap32c]

theorem rrtype (g rs2 rs1 f rd op : Nat) (h_g : g < 128) (h_rs2 : rs2 < 32) (h_rs1 : rs1 < 32) (h_f : f < 8) (h_rd : rd < 32) (h_op : op < 128) (w : World) :
    Calls Try.prog 33 #[.int .u32 g, .int .u32 rs2, .int .u32 rs1, .int .u32 f, .int .u32 rd, .int .u32 op] w fun e w' => e = .returned (.int .u32 (rtR g rs2 rs1 f rd op : Nat)) ∧ w' = w := by
  go_enter Try.func33, Try.ntmps33
  go_wp2_with fail
  go_ret
  refine ⟨ret_u32 ?_, rfl⟩
  unfold rtR
  simp (disch := (repeat (first | omega | apply or64_lt | apply or32_lt))) only [mulc, modc, divc, or32, or32_lit, wrap32c]

theorem rbtype (imm rs1 f : Nat) (h_imm : imm < 4294967296) (h_rs1 : rs1 < 32) (h_f : f < 8) (w : World) :
    Calls Try.prog 32 #[.int .u32 imm, .int .u32 rs1, .int .u32 f] w fun e w' => e = .returned (.int .u32 (btR imm rs1 f : Nat)) ∧ w' = w := by
  go_enter Try.func32, Try.ntmps32
  go_wp2_with fail
  go_ret
  refine ⟨ret_u32 ?_, rfl⟩
  unfold btR
  simp (disch := (repeat (first | omega | apply or64_lt | apply or32_lt))) only [mulc, modc, divc, or32, or32_lit, wrap32c]

theorem rjtype (imm rd : Nat) (h_imm : imm < 4294967296) (h_rd : rd < 32) (w : World) :
    Calls Try.prog 31 #[.int .u32 imm, .int .u32 rd] w fun e w' => e = .returned (.int .u32 (jtR imm rd : Nat)) ∧ w' = w := by
  go_enter Try.func31, Try.ntmps31
  go_wp2_with fail
  go_ret
  refine ⟨ret_u32 ?_, rfl⟩
  unfold jtR
  simp (disch := (repeat (first | omega | apply or64_lt | apply or32_lt))) only [mulc, modc, divc, or32, or32_lit, wrap32c]
set_option maxRecDepth 100000 in
set_option maxHeartbeats 400000 in
theorem rzero (h : Nat) (hh : h < 65536) (w : World) :
    Calls Try.prog 15 #[.int .u16 h] w fun e w' => e = .returned (.tuple #[.int .u32 (zV h : Nat), .bool (zB h)]) ∧ w' = w := by
  by_cases e0 : fN h 15 13 = 0
  · skip
    have r1 : zV h = itR (z0R h) 2 0 (loN h) 19 := by unfold zV; rw [if_pos e0]
    have r2 : zB h = nb (z0R h) := by unfold zB; rw [if_pos e0]
    rw [r1, r2]
    clear r1 r2
    have b4_2 := fN_lt h 4 2 8 (by decide)
    have b9_7 := fN_lt h 9 7 8 (by decide)
    have b12_10 := fN_lt h 12 10 8 (by decide)
    have b6_6 := fN_lt h 6 6 2 (by decide)
    have b5_5 := fN_lt h 5 5 2 (by decide)
    have b6_5 := fN_lt h 6 5 4 (by decide)
    have elo : (8 : Int) + ((fN h 4 2 : Nat) : Int) = ((loN h : Nat) : Int) := by unfold loN; omega
    have eup : (8 : Int) + ((fN h 9 7 : Nat) : Int) = ((upN h : Nat) : Int) := by unfold upN; omega
    have o_wordR := wordR_or h
    have o_doubleR := doubleR_or h
    have b12_11 := fN_lt h 12 11 4 (by decide)
    have b10_7 := fN_lt h 10 7 16 (by decide)
    have o_z0R := z0R_or h
    go_enter Try.func15, Try.ntmps15
    go_wp2_with (first | (go_at_call 26; refine (rf h hh _ _ (by decide) (by decide) (by decide) _).mono ?_; rintro e w' ⟨rfl, rfl⟩) | (go_at_call 27; refine (ritype (z0R h) 2 0 (loN h) 19 (z0R_lt h) (by decide) (by decide) (loN_lt h) (by decide) _).mono ?_; rintro e w' ⟨rfl, rfl⟩))
    go_ret2
    exact ⟨rfl, rfl⟩
  · skip
    by_cases e1 : fN h 15 13 = 2
    · skip
      have r1 : zV h = itR (wordR h) (upN h) 2 (loN h) 3 := by unfold zV; rw [if_neg e0, if_pos e1]
      have r2 : zB h = true := by unfold zB; rw [if_neg e0, if_pos e1]
      rw [r1, r2]
      clear r1 r2
      clear e0
      have b4_2 := fN_lt h 4 2 8 (by decide)
      have b9_7 := fN_lt h 9 7 8 (by decide)
      have b12_10 := fN_lt h 12 10 8 (by decide)
      have b6_6 := fN_lt h 6 6 2 (by decide)
      have b5_5 := fN_lt h 5 5 2 (by decide)
      have b6_5 := fN_lt h 6 5 4 (by decide)
      have elo : (8 : Int) + ((fN h 4 2 : Nat) : Int) = ((loN h : Nat) : Int) := by unfold loN; omega
      have eup : (8 : Int) + ((fN h 9 7 : Nat) : Int) = ((upN h : Nat) : Int) := by unfold upN; omega
      have o_wordR := wordR_or h
      have o_doubleR := doubleR_or h
      go_enter Try.func15, Try.ntmps15
      go_wp2_with (first | (go_at_call 26; refine (rf h hh _ _ (by decide) (by decide) (by decide) _).mono ?_; rintro e w' ⟨rfl, rfl⟩) | (go_at_call 27; refine (ritype (wordR h) (upN h) 2 (loN h) 3 (wordR_lt h) (upN_lt h) (by decide) (loN_lt h) (by decide) _).mono ?_; rintro e w' ⟨rfl, rfl⟩))
      go_ret2
      exact ⟨rfl, rfl⟩
    · skip
      by_cases e2 : fN h 15 13 = 3
      · skip
        have r1 : zV h = itR (doubleR h) (upN h) 3 (loN h) 3 := by unfold zV; rw [if_neg e0, if_neg e1, if_pos e2]
        have r2 : zB h = true := by unfold zB; rw [if_neg e0, if_neg e1, if_pos e2]
        rw [r1, r2]
        clear r1 r2
        clear e0 e1
        have b4_2 := fN_lt h 4 2 8 (by decide)
        have b9_7 := fN_lt h 9 7 8 (by decide)
        have b12_10 := fN_lt h 12 10 8 (by decide)
        have b6_6 := fN_lt h 6 6 2 (by decide)
        have b5_5 := fN_lt h 5 5 2 (by decide)
        have b6_5 := fN_lt h 6 5 4 (by decide)
        have elo : (8 : Int) + ((fN h 4 2 : Nat) : Int) = ((loN h : Nat) : Int) := by unfold loN; omega
        have eup : (8 : Int) + ((fN h 9 7 : Nat) : Int) = ((upN h : Nat) : Int) := by unfold upN; omega
        have o_wordR := wordR_or h
        have o_doubleR := doubleR_or h
        go_enter Try.func15, Try.ntmps15
        go_wp2_with (first | (go_at_call 26; refine (rf h hh _ _ (by decide) (by decide) (by decide) _).mono ?_; rintro e w' ⟨rfl, rfl⟩) | (go_at_call 27; refine (ritype (doubleR h) (upN h) 3 (loN h) 3 (doubleR_lt h) (upN_lt h) (by decide) (loN_lt h) (by decide) _).mono ?_; rintro e w' ⟨rfl, rfl⟩))
        go_ret2
        exact ⟨rfl, rfl⟩
      · skip
        by_cases e3 : fN h 15 13 = 6
        · skip
          have r1 : zV h = stR (wordR h) (loN h) (upN h) 2 := by unfold zV; rw [if_neg e0, if_neg e1, if_neg e2, if_pos e3]
          have r2 : zB h = true := by unfold zB; rw [if_neg e0, if_neg e1, if_neg e2, if_pos e3]
          rw [r1, r2]
          clear r1 r2
          clear e0 e1 e2
          have b4_2 := fN_lt h 4 2 8 (by decide)
          have b9_7 := fN_lt h 9 7 8 (by decide)
          have b12_10 := fN_lt h 12 10 8 (by decide)
          have b6_6 := fN_lt h 6 6 2 (by decide)
          have b5_5 := fN_lt h 5 5 2 (by decide)
          have b6_5 := fN_lt h 6 5 4 (by decide)
          have elo : (8 : Int) + ((fN h 4 2 : Nat) : Int) = ((loN h : Nat) : Int) := by unfold loN; omega
          have eup : (8 : Int) + ((fN h 9 7 : Nat) : Int) = ((upN h : Nat) : Int) := by unfold upN; omega
          have o_wordR := wordR_or h
          have o_doubleR := doubleR_or h
          go_enter Try.func15, Try.ntmps15
          go_wp2_with (first | (go_at_call 26; refine (rf h hh _ _ (by decide) (by decide) (by decide) _).mono ?_; rintro e w' ⟨rfl, rfl⟩) | (go_at_call 28; refine (rstype (wordR h) (loN h) (upN h) 2 (wordR_lt h) (loN_lt h) (upN_lt h) (by decide) _).mono ?_; rintro e w' ⟨rfl, rfl⟩))
          go_ret2
          exact ⟨rfl, rfl⟩
        · skip
          by_cases e4 : fN h 15 13 = 7
          · skip
            have r1 : zV h = stR (doubleR h) (loN h) (upN h) 3 := by unfold zV; rw [if_neg e0, if_neg e1, if_neg e2, if_neg e3, if_pos e4]
            have r2 : zB h = true := by unfold zB; rw [if_neg e0, if_neg e1, if_neg e2, if_neg e3, if_pos e4]
            rw [r1, r2]
            clear r1 r2
            clear e0 e1 e2 e3
            have b4_2 := fN_lt h 4 2 8 (by decide)
            have b9_7 := fN_lt h 9 7 8 (by decide)
            have b12_10 := fN_lt h 12 10 8 (by decide)
            have b6_6 := fN_lt h 6 6 2 (by decide)
            have b5_5 := fN_lt h 5 5 2 (by decide)
            have b6_5 := fN_lt h 6 5 4 (by decide)
            have elo : (8 : Int) + ((fN h 4 2 : Nat) : Int) = ((loN h : Nat) : Int) := by unfold loN; omega
            have eup : (8 : Int) + ((fN h 9 7 : Nat) : Int) = ((upN h : Nat) : Int) := by unfold upN; omega
            have o_wordR := wordR_or h
            have o_doubleR := doubleR_or h
            go_enter Try.func15, Try.ntmps15
            go_wp2_with (first | (go_at_call 26; refine (rf h hh _ _ (by decide) (by decide) (by decide) _).mono ?_; rintro e w' ⟨rfl, rfl⟩) | (go_at_call 28; refine (rstype (doubleR h) (loN h) (upN h) 3 (doubleR_lt h) (loN_lt h) (upN_lt h) (by decide) _).mono ?_; rintro e w' ⟨rfl, rfl⟩))
            go_ret2
            exact ⟨rfl, rfl⟩
          · skip
            have r1 : zV h = 0 := by unfold zV; rw [if_neg e0, if_neg e1, if_neg e2, if_neg e3, if_neg e4]
            have r2 : zB h = false := by unfold zB; rw [if_neg e0, if_neg e1, if_neg e2, if_neg e3, if_neg e4]
            rw [r1, r2]
            clear r1 r2
            have b4_2 := fN_lt h 4 2 8 (by decide)
            have b9_7 := fN_lt h 9 7 8 (by decide)
            have b12_10 := fN_lt h 12 10 8 (by decide)
            have b6_6 := fN_lt h 6 6 2 (by decide)
            have b5_5 := fN_lt h 5 5 2 (by decide)
            have b6_5 := fN_lt h 6 5 4 (by decide)
            have elo : (8 : Int) + ((fN h 4 2 : Nat) : Int) = ((loN h : Nat) : Int) := by unfold loN; omega
            have eup : (8 : Int) + ((fN h 9 7 : Nat) : Int) = ((upN h : Nat) : Int) := by unfold upN; omega
            have o_wordR := wordR_or h
            have o_doubleR := doubleR_or h
            go_enter Try.func15, Try.ntmps15
            go_wp2_with (first | (go_at_call 26; refine (rf h hh _ _ (by decide) (by decide) (by decide) _).mono ?_; rintro e w' ⟨rfl, rfl⟩))
            go_ret2
            exact ⟨rfl, rfl⟩
set_option maxRecDepth 100000 in
set_option maxHeartbeats 1000000 in
theorem rsums (h : Nat) (hh : h < 65536) (w : World) :
    Calls Try.prog 30 #[.int .u16 h] w fun e w' => e = .returned (.tuple #[.int .u32 (sumV h : Nat), .bool (sB h)]) ∧ w' = w := by
  by_cases e0 : fN h 11 10 = 0
  · skip
    have r1 : sumV h = itR (sixR h) (upN h) 5 (upN h) 19 := by unfold sumV; rw [if_pos e0]
    have r2 : sB h = true := by unfold sB; rw [if_pos e0]
    rw [r1, r2]
    clear r1 r2
    have b4_2 := fN_lt h 4 2 8 (by decide)
    have b9_7 := fN_lt h 9 7 8 (by decide)
    have b12_12 := fN_lt h 12 12 2 (by decide)
    have b6_2 := fN_lt h 6 2 32 (by decide)
    have b6_5 := fN_lt h 6 5 4 (by decide)
    have elo : (8 : Int) + ((fN h 4 2 : Nat) : Int) = ((loN h : Nat) : Int) := by unfold loN; omega
    have eup : (8 : Int) + ((fN h 9 7 : Nat) : Int) = ((upN h : Nat) : Int) := by unfold upN; omega
    have o_sixR := sixR_or h
    have o_selR := selR_or h
    go_enter Try.func30, Try.ntmps30
    go_wp2_with (first | (go_at_call 26; refine (rf h hh _ _ (by decide) (by decide) (by decide) _).mono ?_; rintro e w' ⟨rfl, rfl⟩) | (go_at_call 27; refine (ritype (sixR h) (upN h) 5 (upN h) 19 (sixR_lt h) (upN_lt h) (by decide) (upN_lt h) (by decide) _).mono ?_; rintro e w' ⟨rfl, rfl⟩))
    go_ret2
    exact ⟨rfl, rfl⟩
  · skip
    by_cases e1 : fN h 11 10 = 1
    · skip
      have r1 : sumV h = itR (sixR h ||| 1024) (upN h) 5 (upN h) 19 := by unfold sumV; rw [if_neg e0, if_pos e1]
      have r2 : sB h = true := by unfold sB; rw [if_neg e0, if_pos e1]
      rw [r1, r2]
      clear r1 r2
      clear e0
      have b4_2 := fN_lt h 4 2 8 (by decide)
      have b9_7 := fN_lt h 9 7 8 (by decide)
      have b12_12 := fN_lt h 12 12 2 (by decide)
      have b6_2 := fN_lt h 6 2 32 (by decide)
      have b6_5 := fN_lt h 6 5 4 (by decide)
      have elo : (8 : Int) + ((fN h 4 2 : Nat) : Int) = ((loN h : Nat) : Int) := by unfold loN; omega
      have eup : (8 : Int) + ((fN h 9 7 : Nat) : Int) = ((upN h : Nat) : Int) := by unfold upN; omega
      have o_sixR := sixR_or h
      have o_selR := selR_or h
      have o1 : bits .or .u32 (sixR h : Int) 1024 = ((sixR h ||| 1024 : Nat) : Int) := or32 _ 1024 (sixR_lt h) (by decide)
      go_enter Try.func30, Try.ntmps30
      go_wp2_with (first | (go_at_call 26; refine (rf h hh _ _ (by decide) (by decide) (by decide) _).mono ?_; rintro e w' ⟨rfl, rfl⟩) | (go_at_call 27; refine (ritype (sixR h ||| 1024) (upN h) 5 (upN h) 19 (or32_lt (sixR_lt h) (by decide)) (upN_lt h) (by decide) (upN_lt h) (by decide) _).mono ?_; rintro e w' ⟨rfl, rfl⟩))
      go_ret2
      exact ⟨rfl, rfl⟩
    · skip
      by_cases e2 : fN h 11 10 = 2
      · skip
        have r1 : sumV h = itR (sxR (sixR h) 6) (upN h) 7 (upN h) 19 := by unfold sumV; rw [if_neg e0, if_neg e1, if_pos e2]
        have r2 : sB h = true := by unfold sB; rw [if_neg e0, if_neg e1, if_pos e2]
        rw [r1, r2]
        clear r1 r2
        clear e0 e1
        have b4_2 := fN_lt h 4 2 8 (by decide)
        have b9_7 := fN_lt h 9 7 8 (by decide)
        have b12_12 := fN_lt h 12 12 2 (by decide)
        have b6_2 := fN_lt h 6 2 32 (by decide)
        have b6_5 := fN_lt h 6 5 4 (by decide)
        have elo : (8 : Int) + ((fN h 4 2 : Nat) : Int) = ((loN h : Nat) : Int) := by unfold loN; omega
        have eup : (8 : Int) + ((fN h 9 7 : Nat) : Int) = ((upN h : Nat) : Int) := by unfold upN; omega
        have o_sixR := sixR_or h
        have o_selR := selR_or h
        go_enter Try.func30, Try.ntmps30
        go_wp2_with (first | (go_at_call 26; refine (rf h hh _ _ (by decide) (by decide) (by decide) _).mono ?_; rintro e w' ⟨rfl, rfl⟩) | (go_at_call 29; (with_reducible refine (rsext (sixR h) (sixR_lt h) 6 (by decide) (by decide) _).mono ?_); rintro e w' ⟨rfl, rfl⟩) | (go_at_call 27; refine (ritype (sxR (sixR h) 6) (upN h) 7 (upN h) 19 (sxR_lt _ _) (upN_lt h) (by decide) (upN_lt h) (by decide) _).mono ?_; rintro e w' ⟨rfl, rfl⟩))
        go_ret2
        exact ⟨rfl, rfl⟩
      · skip
        by_cases s0 : selR h = 0
        · skip
          have r1 : sumV h = rtR 32 (loN h) (upN h) 0 (upN h) 51 := by unfold sumV; rw [if_neg e0, if_neg e1, if_neg e2, if_pos s0]
          have r2 : sB h = true := by unfold sB; rw [if_neg e0, if_neg e1, if_neg e2, if_pos s0]
          rw [r1, r2]
          clear r1 r2
          have b4_2 := fN_lt h 4 2 8 (by decide)
          have b9_7 := fN_lt h 9 7 8 (by decide)
          have b12_12 := fN_lt h 12 12 2 (by decide)
          have b6_2 := fN_lt h 6 2 32 (by decide)
          have b6_5 := fN_lt h 6 5 4 (by decide)
          have elo : (8 : Int) + ((fN h 4 2 : Nat) : Int) = ((loN h : Nat) : Int) := by unfold loN; omega
          have eup : (8 : Int) + ((fN h 9 7 : Nat) : Int) = ((upN h : Nat) : Int) := by unfold upN; omega
          have o_sixR := sixR_or h
          have o_selR := selR_or h
          go_enter Try.func30, Try.ntmps30
          go_wp2_with (first | (go_at_call 26; refine (rf h hh _ _ (by decide) (by decide) (by decide) _).mono ?_; rintro e w' ⟨rfl, rfl⟩) | (go_at_call 33; refine (rrtype 32 (loN h) (upN h) 0 (upN h) 51 (by decide) (loN_lt h) (upN_lt h) (by decide) (upN_lt h) (by decide) _).mono ?_; rintro e w' ⟨rfl, rfl⟩))
          go_ret2
          exact ⟨rfl, rfl⟩
        · skip
          by_cases s1 : selR h = 1
          · skip
            have r1 : sumV h = rtR 0 (loN h) (upN h) 4 (upN h) 51 := by unfold sumV; rw [if_neg e0, if_neg e1, if_neg e2, if_neg s0, if_pos s1]
            have r2 : sB h = true := by unfold sB; rw [if_neg e0, if_neg e1, if_neg e2, if_neg s0, if_pos s1]
            rw [r1, r2]
            clear r1 r2
            clear s0
            have b4_2 := fN_lt h 4 2 8 (by decide)
            have b9_7 := fN_lt h 9 7 8 (by decide)
            have b12_12 := fN_lt h 12 12 2 (by decide)
            have b6_2 := fN_lt h 6 2 32 (by decide)
            have b6_5 := fN_lt h 6 5 4 (by decide)
            have elo : (8 : Int) + ((fN h 4 2 : Nat) : Int) = ((loN h : Nat) : Int) := by unfold loN; omega
            have eup : (8 : Int) + ((fN h 9 7 : Nat) : Int) = ((upN h : Nat) : Int) := by unfold upN; omega
            have o_sixR := sixR_or h
            have o_selR := selR_or h
            go_enter Try.func30, Try.ntmps30
            go_wp2_with (first | (go_at_call 26; refine (rf h hh _ _ (by decide) (by decide) (by decide) _).mono ?_; rintro e w' ⟨rfl, rfl⟩) | (go_at_call 33; refine (rrtype 0 (loN h) (upN h) 4 (upN h) 51 (by decide) (loN_lt h) (upN_lt h) (by decide) (upN_lt h) (by decide) _).mono ?_; rintro e w' ⟨rfl, rfl⟩))
            go_ret2
            exact ⟨rfl, rfl⟩
          · skip
            by_cases s2 : selR h = 2
            · skip
              have r1 : sumV h = rtR 0 (loN h) (upN h) 6 (upN h) 51 := by unfold sumV; rw [if_neg e0, if_neg e1, if_neg e2, if_neg s0, if_neg s1, if_pos s2]
              have r2 : sB h = true := by unfold sB; rw [if_neg e0, if_neg e1, if_neg e2, if_neg s0, if_neg s1, if_pos s2]
              rw [r1, r2]
              clear r1 r2
              clear s0 s1
              have b4_2 := fN_lt h 4 2 8 (by decide)
              have b9_7 := fN_lt h 9 7 8 (by decide)
              have b12_12 := fN_lt h 12 12 2 (by decide)
              have b6_2 := fN_lt h 6 2 32 (by decide)
              have b6_5 := fN_lt h 6 5 4 (by decide)
              have elo : (8 : Int) + ((fN h 4 2 : Nat) : Int) = ((loN h : Nat) : Int) := by unfold loN; omega
              have eup : (8 : Int) + ((fN h 9 7 : Nat) : Int) = ((upN h : Nat) : Int) := by unfold upN; omega
              have o_sixR := sixR_or h
              have o_selR := selR_or h
              go_enter Try.func30, Try.ntmps30
              go_wp2_with (first | (go_at_call 26; refine (rf h hh _ _ (by decide) (by decide) (by decide) _).mono ?_; rintro e w' ⟨rfl, rfl⟩) | (go_at_call 33; refine (rrtype 0 (loN h) (upN h) 6 (upN h) 51 (by decide) (loN_lt h) (upN_lt h) (by decide) (upN_lt h) (by decide) _).mono ?_; rintro e w' ⟨rfl, rfl⟩))
              go_ret2
              exact ⟨rfl, rfl⟩
            · skip
              by_cases s3 : selR h = 3
              · skip
                have r1 : sumV h = rtR 0 (loN h) (upN h) 7 (upN h) 51 := by unfold sumV; rw [if_neg e0, if_neg e1, if_neg e2, if_neg s0, if_neg s1, if_neg s2, if_pos s3]
                have r2 : sB h = true := by unfold sB; rw [if_neg e0, if_neg e1, if_neg e2, if_neg s0, if_neg s1, if_neg s2, if_pos s3]
                rw [r1, r2]
                clear r1 r2
                clear s0 s1 s2
                have b4_2 := fN_lt h 4 2 8 (by decide)
                have b9_7 := fN_lt h 9 7 8 (by decide)
                have b12_12 := fN_lt h 12 12 2 (by decide)
                have b6_2 := fN_lt h 6 2 32 (by decide)
                have b6_5 := fN_lt h 6 5 4 (by decide)
                have elo : (8 : Int) + ((fN h 4 2 : Nat) : Int) = ((loN h : Nat) : Int) := by unfold loN; omega
                have eup : (8 : Int) + ((fN h 9 7 : Nat) : Int) = ((upN h : Nat) : Int) := by unfold upN; omega
                have o_sixR := sixR_or h
                have o_selR := selR_or h
                go_enter Try.func30, Try.ntmps30
                go_wp2_with (first | (go_at_call 26; refine (rf h hh _ _ (by decide) (by decide) (by decide) _).mono ?_; rintro e w' ⟨rfl, rfl⟩) | (go_at_call 33; refine (rrtype 0 (loN h) (upN h) 7 (upN h) 51 (by decide) (loN_lt h) (upN_lt h) (by decide) (upN_lt h) (by decide) _).mono ?_; rintro e w' ⟨rfl, rfl⟩))
                go_ret2
                exact ⟨rfl, rfl⟩
              · skip
                by_cases s4 : selR h = 4
                · skip
                  have r1 : sumV h = rtR 32 (loN h) (upN h) 0 (upN h) 59 := by unfold sumV; rw [if_neg e0, if_neg e1, if_neg e2, if_neg s0, if_neg s1, if_neg s2, if_neg s3, if_pos s4]
                  have r2 : sB h = true := by unfold sB; rw [if_neg e0, if_neg e1, if_neg e2, if_neg s0, if_neg s1, if_neg s2, if_neg s3, if_pos s4]
                  rw [r1, r2]
                  clear r1 r2
                  clear s0 s1 s2 s3
                  have b4_2 := fN_lt h 4 2 8 (by decide)
                  have b9_7 := fN_lt h 9 7 8 (by decide)
                  have b12_12 := fN_lt h 12 12 2 (by decide)
                  have b6_2 := fN_lt h 6 2 32 (by decide)
                  have b6_5 := fN_lt h 6 5 4 (by decide)
                  have elo : (8 : Int) + ((fN h 4 2 : Nat) : Int) = ((loN h : Nat) : Int) := by unfold loN; omega
                  have eup : (8 : Int) + ((fN h 9 7 : Nat) : Int) = ((upN h : Nat) : Int) := by unfold upN; omega
                  have o_sixR := sixR_or h
                  have o_selR := selR_or h
                  go_enter Try.func30, Try.ntmps30
                  go_wp2_with (first | (go_at_call 26; refine (rf h hh _ _ (by decide) (by decide) (by decide) _).mono ?_; rintro e w' ⟨rfl, rfl⟩) | (go_at_call 33; refine (rrtype 32 (loN h) (upN h) 0 (upN h) 59 (by decide) (loN_lt h) (upN_lt h) (by decide) (upN_lt h) (by decide) _).mono ?_; rintro e w' ⟨rfl, rfl⟩))
                  go_ret2
                  exact ⟨rfl, rfl⟩
                · skip
                  by_cases s5 : selR h = 5
                  · skip
                    have r1 : sumV h = rtR 0 (loN h) (upN h) 0 (upN h) 59 := by unfold sumV; rw [if_neg e0, if_neg e1, if_neg e2, if_neg s0, if_neg s1, if_neg s2, if_neg s3, if_neg s4, if_pos s5]
                    have r2 : sB h = true := by unfold sB; rw [if_neg e0, if_neg e1, if_neg e2, if_neg s0, if_neg s1, if_neg s2, if_neg s3, if_neg s4, if_pos s5]
                    rw [r1, r2]
                    clear r1 r2
                    clear s0 s1 s2 s3 s4
                    have b4_2 := fN_lt h 4 2 8 (by decide)
                    have b9_7 := fN_lt h 9 7 8 (by decide)
                    have b12_12 := fN_lt h 12 12 2 (by decide)
                    have b6_2 := fN_lt h 6 2 32 (by decide)
                    have b6_5 := fN_lt h 6 5 4 (by decide)
                    have elo : (8 : Int) + ((fN h 4 2 : Nat) : Int) = ((loN h : Nat) : Int) := by unfold loN; omega
                    have eup : (8 : Int) + ((fN h 9 7 : Nat) : Int) = ((upN h : Nat) : Int) := by unfold upN; omega
                    have o_sixR := sixR_or h
                    have o_selR := selR_or h
                    go_enter Try.func30, Try.ntmps30
                    go_wp2_with (first | (go_at_call 26; refine (rf h hh _ _ (by decide) (by decide) (by decide) _).mono ?_; rintro e w' ⟨rfl, rfl⟩) | (go_at_call 33; refine (rrtype 0 (loN h) (upN h) 0 (upN h) 59 (by decide) (loN_lt h) (upN_lt h) (by decide) (upN_lt h) (by decide) _).mono ?_; rintro e w' ⟨rfl, rfl⟩))
                    go_ret2
                    exact ⟨rfl, rfl⟩
                  · skip
                    have r1 : sumV h = 0 := by unfold sumV; rw [if_neg e0, if_neg e1, if_neg e2, if_neg s0, if_neg s1, if_neg s2, if_neg s3, if_neg s4, if_neg s5]
                    have r2 : sB h = false := by unfold sB; rw [if_neg e0, if_neg e1, if_neg e2, if_neg s0, if_neg s1, if_neg s2, if_neg s3, if_neg s4, if_neg s5]
                    rw [r1, r2]
                    clear r1 r2
                    have b4_2 := fN_lt h 4 2 8 (by decide)
                    have b9_7 := fN_lt h 9 7 8 (by decide)
                    have b12_12 := fN_lt h 12 12 2 (by decide)
                    have b6_2 := fN_lt h 6 2 32 (by decide)
                    have b6_5 := fN_lt h 6 5 4 (by decide)
                    have elo : (8 : Int) + ((fN h 4 2 : Nat) : Int) = ((loN h : Nat) : Int) := by unfold loN; omega
                    have eup : (8 : Int) + ((fN h 9 7 : Nat) : Int) = ((upN h : Nat) : Int) := by unfold upN; omega
                    have o_sixR := sixR_or h
                    have o_selR := selR_or h
                    go_enter Try.func30, Try.ntmps30
                    go_wp2_with (first | (go_at_call 26; refine (rf h hh _ _ (by decide) (by decide) (by decide) _).mono ?_; rintro e w' ⟨rfl, rfl⟩))
                    go_ret2
                    exact ⟨rfl, rfl⟩
set_option maxRecDepth 100000 in
set_option maxHeartbeats 1000000 in
theorem rone (h : Nat) (hh : h < 65536) (w : World) :
    Calls Try.prog 16 #[.int .u16 h] w fun e w' => e = .returned (.tuple #[.int .u32 (oV h : Nat), .bool (oB h)]) ∧ w' = w := by
  by_cases e0 : fN h 15 13 = 0
  · skip
    have r1 : oV h = itR (oI h) (rdR h) 0 (rdR h) 19 := by unfold oV; rw [if_pos e0]
    have r2 : oB h = true := by unfold oB; rw [if_pos e0]
    rw [r1, r2]
    clear r1 r2
    have b12_12 := fN_lt h 12 12 2 (by decide)
    have b6_2 := fN_lt h 6 2 32 (by decide)
    have erd : fN h 11 7 = rdR h := rfl
    have o_sixR := sixR_or h
    go_enter Try.func16, Try.ntmps16
    go_wp2_with (first | (go_at_call 26; refine (rf h hh _ _ (by decide) (by decide) (by decide) _).mono ?_; rintro e w' ⟨rfl, rfl⟩) | (go_at_call 29; (with_reducible refine (rsext (sixR h) (sixR_lt h) 6 (by decide) (by decide) _).mono ?_); rintro e w' ⟨rfl, rfl⟩) | (go_at_call 27; refine (ritype (oI h) (rdR h) 0 (rdR h) 19 (sxR_lt _ _) (rdR_lt h) (by decide) (rdR_lt h) (by decide) _).mono ?_; rintro e w' ⟨rfl, rfl⟩))
    go_ret2
    exact ⟨rfl, rfl⟩
  · skip
    by_cases e1 : fN h 15 13 = 1
    · skip
      have r1 : oV h = itR (oI h) (rdR h) 0 (rdR h) 27 := by unfold oV; rw [if_neg e0, if_pos e1]
      have r2 : oB h = nb (rdR h) := by unfold oB; rw [if_neg e0, if_pos e1]
      rw [r1, r2]
      clear r1 r2
      clear e0
      have b12_12 := fN_lt h 12 12 2 (by decide)
      have b6_2 := fN_lt h 6 2 32 (by decide)
      have erd : fN h 11 7 = rdR h := rfl
      have o_sixR := sixR_or h
      go_enter Try.func16, Try.ntmps16
      go_wp2_with (first | (go_at_call 26; refine (rf h hh _ _ (by decide) (by decide) (by decide) _).mono ?_; rintro e w' ⟨rfl, rfl⟩) | (go_at_call 29; (with_reducible refine (rsext (sixR h) (sixR_lt h) 6 (by decide) (by decide) _).mono ?_); rintro e w' ⟨rfl, rfl⟩) | (go_at_call 27; refine (ritype (oI h) (rdR h) 0 (rdR h) 27 (sxR_lt _ _) (rdR_lt h) (by decide) (rdR_lt h) (by decide) _).mono ?_; rintro e w' ⟨rfl, rfl⟩))
      go_ret2
      exact ⟨rfl, rfl⟩
    · skip
      by_cases e2 : fN h 15 13 = 2
      · skip
        have r1 : oV h = itR (oI h) 0 0 (rdR h) 19 := by unfold oV; rw [if_neg e0, if_neg e1, if_pos e2]
        have r2 : oB h = true := by unfold oB; rw [if_neg e0, if_neg e1, if_pos e2]
        rw [r1, r2]
        clear r1 r2
        clear e0 e1
        have b12_12 := fN_lt h 12 12 2 (by decide)
        have b6_2 := fN_lt h 6 2 32 (by decide)
        have erd : fN h 11 7 = rdR h := rfl
        have o_sixR := sixR_or h
        go_enter Try.func16, Try.ntmps16
        go_wp2_with (first | (go_at_call 26; refine (rf h hh _ _ (by decide) (by decide) (by decide) _).mono ?_; rintro e w' ⟨rfl, rfl⟩) | (go_at_call 29; (with_reducible refine (rsext (sixR h) (sixR_lt h) 6 (by decide) (by decide) _).mono ?_); rintro e w' ⟨rfl, rfl⟩) | (go_at_call 27; refine (ritype (oI h) 0 0 (rdR h) 19 (sxR_lt _ _) (by decide) (by decide) (rdR_lt h) (by decide) _).mono ?_; rintro e w' ⟨rfl, rfl⟩))
        go_ret2
        exact ⟨rfl, rfl⟩
      · skip
        by_cases e3 : fN h 15 13 = 3
        · skip
          by_cases e9 : rdR h = 2
          · skip
            have r1 : oV h = itR (o3I h) 2 0 2 19 := by unfold oV; rw [if_neg e0, if_neg e1, if_neg e2, if_pos e3, if_pos e9]
            have r2 : oB h = nb (o3I h) := by unfold oB; rw [if_neg e0, if_neg e1, if_neg e2, if_pos e3, if_pos e9]
            rw [r1, r2]
            clear r1 r2
            clear e0 e1 e2
            have b12_12 := fN_lt h 12 12 2 (by decide)
            have b6_2 := fN_lt h 6 2 32 (by decide)
            have erd : fN h 11 7 = rdR h := rfl
            have o_sixR := sixR_or h
            have b6_6 := fN_lt h 6 6 2 (by decide)
            have b5_5 := fN_lt h 5 5 2 (by decide)
            have b4_3 := fN_lt h 4 3 4 (by decide)
            have b2_2 := fN_lt h 2 2 2 (by decide)
            have o_u2R := u2R_or h
            go_enter Try.func16, Try.ntmps16
            go_wp2_with (first | (go_at_call 26; refine (rf h hh _ _ (by decide) (by decide) (by decide) _).mono ?_; rintro e w' ⟨rfl, rfl⟩) | (first | (go_at_call 29; (with_reducible refine (rsext (u2R h) (u2R_lt h) 10 (by decide) (by decide) _).mono ?_); rintro e w' ⟨rfl, rfl⟩) | (go_at_call 29; (with_reducible refine (rsext (sixR h) (sixR_lt h) 6 (by decide) (by decide) _).mono ?_); rintro e w' ⟨rfl, rfl⟩)) | (go_at_call 27; refine (ritype (o3I h) 2 0 2 19 (sxR_lt _ _) (by decide) (by decide) (by decide) (by decide) _).mono ?_; rintro e w' ⟨rfl, rfl⟩))
            go_ret2
            exact ⟨rfl, rfl⟩
          · skip
            have r1 : oV h = luR (oI h) (rdR h) := by unfold oV; rw [if_neg e0, if_neg e1, if_neg e2, if_pos e3, if_neg e9]
            have r2 : oB h = nb (oI h) := by unfold oB; rw [if_neg e0, if_neg e1, if_neg e2, if_pos e3, if_neg e9]
            rw [r1, r2]
            clear r1 r2
            clear e0 e1 e2
            have b12_12 := fN_lt h 12 12 2 (by decide)
            have b6_2 := fN_lt h 6 2 32 (by decide)
            have erd : fN h 11 7 = rdR h := rfl
            have o_sixR := sixR_or h
            have lu : bits .or .u32 (bits .or .u32 (((sxR (sixR h) 6 : Nat) : Int) * 4096 % 4294967296) (((rdR h : Nat) : Int) * 128)) 55 = ((luR (oI h) (rdR h) : Nat) : Int) := luR_or _ _ (rdR_lt h)
            have brd := rdR_lt h
            go_enter Try.func16, Try.ntmps16
            go_wp2_with (first | (go_at_call 26; refine (rf h hh _ _ (by decide) (by decide) (by decide) _).mono ?_; rintro e w' ⟨rfl, rfl⟩) | (go_at_call 29; (with_reducible refine (rsext (sixR h) (sixR_lt h) 6 (by decide) (by decide) _).mono ?_); rintro e w' ⟨rfl, rfl⟩))
            go_ret2
            exact ⟨rfl, rfl⟩
        · skip
          by_cases e4 : fN h 15 13 = 4
          · skip
            have r1 : oV h = sumV h := by unfold oV; rw [if_neg e0, if_neg e1, if_neg e2, if_neg e3, if_pos e4]
            have r2 : oB h = sB h := by unfold oB; rw [if_neg e0, if_neg e1, if_neg e2, if_neg e3, if_pos e4]
            rw [r1, r2]
            clear r1 r2
            clear e0 e1 e2 e3
            have b12_12 := fN_lt h 12 12 2 (by decide)
            have b6_2 := fN_lt h 6 2 32 (by decide)
            have erd : fN h 11 7 = rdR h := rfl
            have o_sixR := sixR_or h
            go_enter Try.func16, Try.ntmps16
            go_wp2_with (first | (go_at_call 26; refine (rf h hh _ _ (by decide) (by decide) (by decide) _).mono ?_; rintro e w' ⟨rfl, rfl⟩) | (go_at_call 29; (with_reducible refine (rsext (sixR h) (sixR_lt h) 6 (by decide) (by decide) _).mono ?_); rintro e w' ⟨rfl, rfl⟩) | (go_at_call 30; refine (rsums h hh _).mono ?_; rintro e w' ⟨rfl, rfl⟩))
            go_ret2
            exact ⟨rfl, rfl⟩
          · skip
            by_cases e5 : fN h 15 13 = 5
            · skip
              have r1 : oV h = jtR (sxR (jR h) 12) 0 := by unfold oV; rw [if_neg e0, if_neg e1, if_neg e2, if_neg e3, if_neg e4, if_pos e5]
              have r2 : oB h = true := by unfold oB; rw [if_neg e0, if_neg e1, if_neg e2, if_neg e3, if_neg e4, if_pos e5]
              rw [r1, r2]
              clear r1 r2
              clear e0 e1 e2 e3 e4
              have b12_12 := fN_lt h 12 12 2 (by decide)
              have b6_2 := fN_lt h 6 2 32 (by decide)
              have erd : fN h 11 7 = rdR h := rfl
              have o_sixR := sixR_or h
              have b11_11 := fN_lt h 11 11 2 (by decide)
              have b10_9 := fN_lt h 10 9 4 (by decide)
              have b8_8 := fN_lt h 8 8 2 (by decide)
              have b7_7 := fN_lt h 7 7 2 (by decide)
              have b6_6 := fN_lt h 6 6 2 (by decide)
              have b5_3 := fN_lt h 5 3 8 (by decide)
              have b2_2 := fN_lt h 2 2 2 (by decide)
              have o_jR := jR_or h
              go_enter Try.func16, Try.ntmps16
              go_wp2_with (first | (go_at_call 26; refine (rf h hh _ _ (by decide) (by decide) (by decide) _).mono ?_; rintro e w' ⟨rfl, rfl⟩) | (first | (go_at_call 29; (with_reducible refine (rsext (jR h) (jR_lt h) 12 (by decide) (by decide) _).mono ?_); rintro e w' ⟨rfl, rfl⟩) | (go_at_call 29; (with_reducible refine (rsext (sixR h) (sixR_lt h) 6 (by decide) (by decide) _).mono ?_); rintro e w' ⟨rfl, rfl⟩)) | (go_at_call 31; refine (rjtype (sxR (jR h) 12) 0 (sxR_lt _ _) (by decide) _).mono ?_; rintro e w' ⟨rfl, rfl⟩))
              go_ret2
              exact ⟨rfl, rfl⟩
            · skip
              have r1 : oV h = btR (sxR (bR h) 9) (upN h) (fN h 13 13) := by unfold oV; rw [if_neg e0, if_neg e1, if_neg e2, if_neg e3, if_neg e4, if_neg e5]
              have r2 : oB h = true := by unfold oB; rw [if_neg e0, if_neg e1, if_neg e2, if_neg e3, if_neg e4, if_neg e5]
              rw [r1, r2]
              clear r1 r2
              have b12_12 := fN_lt h 12 12 2 (by decide)
              have b6_2 := fN_lt h 6 2 32 (by decide)
              have erd : fN h 11 7 = rdR h := rfl
              have o_sixR := sixR_or h
              have b11_10 := fN_lt h 11 10 4 (by decide)
              have b6_5 := fN_lt h 6 5 4 (by decide)
              have b4_3 := fN_lt h 4 3 4 (by decide)
              have b2_2 := fN_lt h 2 2 2 (by decide)
              have b9_7 := fN_lt h 9 7 8 (by decide)
              have b13_13 := fN_lt h 13 13 2 (by decide)
              have eup : (8 : Int) + ((fN h 9 7 : Nat) : Int) = ((upN h : Nat) : Int) := by unfold upN; omega
              have o_bR := bR_or h
              go_enter Try.func16, Try.ntmps16
              go_wp2_with (first | (go_at_call 26; refine (rf h hh _ _ (by decide) (by decide) (by decide) _).mono ?_; rintro e w' ⟨rfl, rfl⟩) | (first | (go_at_call 29; (with_reducible refine (rsext (bR h) (bR_lt h) 9 (by decide) (by decide) _).mono ?_); rintro e w' ⟨rfl, rfl⟩) | (go_at_call 29; (with_reducible refine (rsext (sixR h) (sixR_lt h) 6 (by decide) (by decide) _).mono ?_); rintro e w' ⟨rfl, rfl⟩)) | (go_at_call 32; refine (rbtype (sxR (bR h) 9) (upN h) (fN h 13 13) (sxR_lt _ _) (upN_lt h) (fN_lt _ _ _ _ (by decide)) _).mono ?_; rintro e w' ⟨rfl, rfl⟩))
              go_ret2
              exact ⟨rfl, rfl⟩
set_option maxRecDepth 100000 in
set_option maxHeartbeats 1000000 in
theorem rtwo (h : Nat) (hh : h < 65536) (w : World) :
    Calls Try.prog 17 #[.int .u16 h] w fun e w' => e = .returned (.tuple #[.int .u32 (tV h : Nat), .bool (tB h)]) ∧ w' = w := by
  by_cases e0 : fN h 15 13 = 0
  · skip
    have r1 : tV h = itR (sixR h) (rdR h) 1 (rdR h) 19 := by unfold tV; rw [if_pos e0]
    have r2 : tB h = true := by unfold tB; rw [if_pos e0]
    rw [r1, r2]
    clear r1 r2
    have b6_2 := fN_lt h 6 2 32 (by decide)
    have erd : fN h 11 7 = rdR h := rfl
    have b12_12 := fN_lt h 12 12 2 (by decide)
    have o_sixR := sixR_or h
    go_enter Try.func17, Try.ntmps17
    go_wp2_with (first | (go_at_call 26; refine (rf h hh _ _ (by decide) (by decide) (by decide) _).mono ?_; rintro e w' ⟨rfl, rfl⟩) | (go_at_call 27; refine (ritype (sixR h) (rdR h) 1 (rdR h) 19 (sixR_lt h) (rdR_lt h) (by decide) (rdR_lt h) (by decide) _).mono ?_; rintro e w' ⟨rfl, rfl⟩))
    go_ret2
    exact ⟨rfl, rfl⟩
  · skip
    by_cases e1 : fN h 15 13 = 2
    · skip
      have r1 : tV h = itR (t2R h) 2 2 (rdR h) 3 := by unfold tV; rw [if_neg e0, if_pos e1]
      have r2 : tB h = nb (rdR h) := by unfold tB; rw [if_neg e0, if_pos e1]
      rw [r1, r2]
      clear r1 r2
      clear e0
      have b6_2 := fN_lt h 6 2 32 (by decide)
      have erd : fN h 11 7 = rdR h := rfl
      have b12_12 := fN_lt h 12 12 2 (by decide)
      have b6_4 := fN_lt h 6 4 8 (by decide)
      have b3_2 := fN_lt h 3 2 4 (by decide)
      have o_t2R := t2R_or h
      go_enter Try.func17, Try.ntmps17
      go_wp2_with (first | (go_at_call 26; refine (rf h hh _ _ (by decide) (by decide) (by decide) _).mono ?_; rintro e w' ⟨rfl, rfl⟩) | (go_at_call 27; refine (ritype (t2R h) 2 2 (rdR h) 3 (t2R_lt h) (by decide) (by decide) (rdR_lt h) (by decide) _).mono ?_; rintro e w' ⟨rfl, rfl⟩))
      go_ret2
      exact ⟨rfl, rfl⟩
    · skip
      by_cases e2 : fN h 15 13 = 3
      · skip
        have r1 : tV h = itR (t3R h) 2 3 (rdR h) 3 := by unfold tV; rw [if_neg e0, if_neg e1, if_pos e2]
        have r2 : tB h = nb (rdR h) := by unfold tB; rw [if_neg e0, if_neg e1, if_pos e2]
        rw [r1, r2]
        clear r1 r2
        clear e0 e1
        have b6_2 := fN_lt h 6 2 32 (by decide)
        have erd : fN h 11 7 = rdR h := rfl
        have b12_12 := fN_lt h 12 12 2 (by decide)
        have b6_5 := fN_lt h 6 5 4 (by decide)
        have b4_2 := fN_lt h 4 2 8 (by decide)
        have o_t3R := t3R_or h
        go_enter Try.func17, Try.ntmps17
        go_wp2_with (first | (go_at_call 26; refine (rf h hh _ _ (by decide) (by decide) (by decide) _).mono ?_; rintro e w' ⟨rfl, rfl⟩) | (go_at_call 27; refine (ritype (t3R h) 2 3 (rdR h) 3 (t3R_lt h) (by decide) (by decide) (rdR_lt h) (by decide) _).mono ?_; rintro e w' ⟨rfl, rfl⟩))
        go_ret2
        exact ⟨rfl, rfl⟩
      · skip
        by_cases e3 : fN h 15 13 = 4
        · skip
          by_cases e2' : fN h 6 2 = 0
          · skip
            by_cases e1' : rdR h = 0
            · skip
              have r1 : tV h = 1048691 := by unfold tV; rw [if_neg e0, if_neg e1, if_neg e2, if_pos e3, if_pos e2', if_pos e1']
              have r2 : tB h = is1 (fN h 12 12) := by unfold tB; rw [if_neg e0, if_neg e1, if_neg e2, if_pos e3, if_pos e2', if_pos e1']
              rw [r1, r2]
              clear r1 r2
              clear e0 e1 e2
              have b6_2 := fN_lt h 6 2 32 (by decide)
              have erd : fN h 11 7 = rdR h := rfl
              have b12_12 := fN_lt h 12 12 2 (by decide)
              go_enter Try.func17, Try.ntmps17
              go_wp2_with (first | (go_at_call 26; refine (rf h hh _ _ (by decide) (by decide) (by decide) _).mono ?_; rintro e w' ⟨rfl, rfl⟩))
              go_ret2
              exact ⟨rfl, rfl⟩
            · skip
              have r1 : tV h = itR 0 (rdR h) 0 (fN h 12 12) 103 := by unfold tV; rw [if_neg e0, if_neg e1, if_neg e2, if_pos e3, if_pos e2', if_neg e1']
              have r2 : tB h = true := by unfold tB; rw [if_neg e0, if_neg e1, if_neg e2, if_pos e3, if_pos e2', if_neg e1']
              rw [r1, r2]
              clear r1 r2
              clear e0 e1 e2
              have b6_2 := fN_lt h 6 2 32 (by decide)
              have erd : fN h 11 7 = rdR h := rfl
              have b12_12 := fN_lt h 12 12 2 (by decide)
              have db : (((rdR h : Nat) : Int) != 0) = true := by simp; omega
              go_enter Try.func17, Try.ntmps17
              go_wp2_with (first | (go_at_call 26; refine (rf h hh _ _ (by decide) (by decide) (by decide) _).mono ?_; rintro e w' ⟨rfl, rfl⟩) | (go_at_call 27; refine (ritype 0 (rdR h) 0 (fN h 12 12) 103 (by decide) (rdR_lt h) (by decide) (fN_lt _ _ _ _ (by decide)) (by decide) _).mono ?_; rintro e w' ⟨rfl, rfl⟩))
              go_ret2
              exact ⟨rfl, rfl⟩
          · skip
            have r1 : tV h = rtR 0 (fN h 6 2) (hrR h) 0 (rdR h) 51 := by unfold tV; rw [if_neg e0, if_neg e1, if_neg e2, if_pos e3, if_neg e2']
            have r2 : tB h = true := by unfold tB; rw [if_neg e0, if_neg e1, if_neg e2, if_pos e3, if_neg e2']
            rw [r1, r2]
            clear r1 r2
            clear e0 e1 e2
            have b6_2 := fN_lt h 6 2 32 (by decide)
            have erd : fN h 11 7 = rdR h := rfl
            have b12_12 := fN_lt h 12 12 2 (by decide)
            have rb : (((fN h 6 2 : Nat) : Int) != 0) = true := by simp; omega
            have hr : IntKind.u32.wrap (((fN h 12 12 : Nat) : Int) * ((rdR h : Nat) : Int)) = ((hrR h : Nat) : Int) := hrR_eq h
            go_enter Try.func17, Try.ntmps17
            go_wp2_with (first | (go_at_call 26; refine (rf h hh _ _ (by decide) (by decide) (by decide) _).mono ?_; rintro e w' ⟨rfl, rfl⟩) | (go_at_call 33; refine (rrtype 0 (fN h 6 2) (hrR h) 0 (rdR h) 51 (by decide) b6_2 (hrR_lt h) (by decide) (rdR_lt h) (by decide) _).mono ?_; rintro e w' ⟨rfl, rfl⟩))
            go_ret2
            exact ⟨rfl, rfl⟩
        · skip
          by_cases e4 : fN h 15 13 = 6
          · skip
            have r1 : tV h = stR (t6R h) (fN h 6 2) 2 2 := by unfold tV; rw [if_neg e0, if_neg e1, if_neg e2, if_neg e3, if_pos e4]
            have r2 : tB h = true := by unfold tB; rw [if_neg e0, if_neg e1, if_neg e2, if_neg e3, if_pos e4]
            rw [r1, r2]
            clear r1 r2
            clear e0 e1 e2 e3
            have b6_2 := fN_lt h 6 2 32 (by decide)
            have erd : fN h 11 7 = rdR h := rfl
            have b12_9 := fN_lt h 12 9 16 (by decide)
            have b8_7 := fN_lt h 8 7 4 (by decide)
            have o_t6R := t6R_or h
            go_enter Try.func17, Try.ntmps17
            go_wp2_with (first | (go_at_call 26; refine (rf h hh _ _ (by decide) (by decide) (by decide) _).mono ?_; rintro e w' ⟨rfl, rfl⟩) | (go_at_call 28; refine (rstype (t6R h) (fN h 6 2) 2 2 (t6R_lt h) b6_2 (by decide) (by decide) _).mono ?_; rintro e w' ⟨rfl, rfl⟩))
            go_ret2
            exact ⟨rfl, rfl⟩
          · skip
            by_cases e5 : fN h 15 13 = 7
            · skip
              have r1 : tV h = stR (t7R h) (fN h 6 2) 2 3 := by unfold tV; rw [if_neg e0, if_neg e1, if_neg e2, if_neg e3, if_neg e4, if_pos e5]
              have r2 : tB h = true := by unfold tB; rw [if_neg e0, if_neg e1, if_neg e2, if_neg e3, if_neg e4, if_pos e5]
              rw [r1, r2]
              clear r1 r2
              clear e0 e1 e2 e3 e4
              have b6_2 := fN_lt h 6 2 32 (by decide)
              have erd : fN h 11 7 = rdR h := rfl
              have b12_10 := fN_lt h 12 10 8 (by decide)
              have b9_7 := fN_lt h 9 7 8 (by decide)
              have o_t7R := t7R_or h
              go_enter Try.func17, Try.ntmps17
              go_wp2_with (first | (go_at_call 26; refine (rf h hh _ _ (by decide) (by decide) (by decide) _).mono ?_; rintro e w' ⟨rfl, rfl⟩) | (go_at_call 28; refine (rstype (t7R h) (fN h 6 2) 2 3 (t7R_lt h) b6_2 (by decide) (by decide) _).mono ?_; rintro e w' ⟨rfl, rfl⟩))
              go_ret2
              exact ⟨rfl, rfl⟩
            · skip
              have r1 : tV h = 0 := by unfold tV; rw [if_neg e0, if_neg e1, if_neg e2, if_neg e3, if_neg e4, if_neg e5]
              have r2 : tB h = false := by unfold tB; rw [if_neg e0, if_neg e1, if_neg e2, if_neg e3, if_neg e4, if_neg e5]
              rw [r1, r2]
              clear r1 r2
              have b6_2 := fN_lt h 6 2 32 (by decide)
              have erd : fN h 11 7 = rdR h := rfl
              go_enter Try.func17, Try.ntmps17
              go_wp2_with (first | (go_at_call 26; refine (rf h hh _ _ (by decide) (by decide) (by decide) _).mono ?_; rintro e w' ⟨rfl, rfl⟩))
              go_ret2
              exact ⟨rfl, rfl⟩
end Go.Proofs.Ytagknjcjboiooaa
