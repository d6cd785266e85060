/-
  The document's own Get of a message.
-/
import Derived.Test.YtnmffkmpkgmkpaaDhR
import Derived.Test.YtnmffkmpkgmkpaaDeps
import Derived.Test.YtnmffkmpkgmkpaaFull
set_option maxRecDepth 4000
set_option linter.unusedVariables false
set_option linter.unusedSimpArgs false
namespace Go.Proofs.Ytnmffkmpkgmkpaa
open Go.RowKit

/-- Options have no number 0. -/
theorem optF_kind : ∀ k (b : List Int), ∀ p ∈ (optF k b).1, p.1 ≠ 0
  | 0, _, p, hp => by simp [optF] at hp
  | _ + 1, [], p, hp => by simp [optF] at hp
  | k + 1, x :: r, p, hp => by
    unfold optF at hp
    split at hp
    · simp at hp
    · rename_i h255
      split at hp
      · exact optF_kind k r p hp
      · rename_i h0
        match r, hp with
        | [], hp => simp at hp
        | n :: t, hp =>
          simp only at hp
          split at hp
          · simp at hp
          · rcases List.mem_cons.1 hp with rfl | hp
            · exact h0
            · exact optF_kind k _ p hp
theorem fndV_form (b : List Int) (size : Nat) (more : Bool) : fndV b 0 size more = ([], false, (optV b).2) := by
  unfold fndV
  have : fstV (optV b).1 0 size more = none := by
    unfold fstV
    rw [Option.map_eq_none_iff, List.find?_eq_none]
    intro p hp hq
    have := optF_kind _ b p hp
    simp only [Bool.and_eq_true, beq_iff_eq] at hq
    exact this hq.1
  rw [this]
set_option maxHeartbeats 2000000 in
theorem refGetD_short (a : Option Addr) (n c : Nat) (hs : (n : Int) < 240) (w : World) :
    Calls Try.prog 12 #[.slice a n c] w fun e w' => e = .returned (.tuple #[.agg #[.int .i64 0, .int .u32 0, .int .u32 0, .int .u32 0, .slice none 0 0, .int .i64 0, .int .u32 0, .int .u32 0, .int .u32 0, .int .u32 0, .int .u32 0, .int .u32 0], .int .i64 160]) ∧ Grew w w' := by
  go_enter Try.func12, Try.ntmps12
  go_upto_region 1 with fail
  have hR : Blk (w.alloc (.cells #[.int .i64 0, .int .u32 0, .int .u32 0, .int .u32 0, .slice none 0 0, .int .i64 0, .int .u32 0, .int .u32 0, .int .u32 0, .int .u32 0, .int .u32 0, .int .u32 0] 26)) w.heap.size #[.int .i64 0, .int .u32 0, .int .u32 0, .int .u32 0, .slice none 0 0, .int .i64 0, .int .u32 0, .int .u32 0, .int .u32 0, .int .u32 0, .int .u32 0, .int .u32 0] 26 := Blk.new _ _ _ _ rfl
  have g0 : Grew w (w.alloc (.cells #[.int .i64 0, .int .u32 0, .int .u32 0, .int .u32 0, .slice none 0 0, .int .i64 0, .int .u32 0, .int .u32 0, .int .u32 0, .int .u32 0, .int .u32 0, .int .u32 0] 26)) := (Grew.refl _).alloc _
  generalize (w.alloc (.cells #[.int .i64 0, .int .u32 0, .int .u32 0, .int .u32 0, .slice none 0 0, .int .i64 0, .int .u32 0, .int .u32 0, .int .u32 0, .int .u32 0, .int .u32 0, .int .u32 0] 26)) = w0 at *
  generalize hlR : w.heap.size = R at *
  have y0 := hR.cell 0
  have y1 := hR.cell 1
  have y2 := hR.cell 2
  have y3 := hR.cell 3
  have y4 := hR.cell 4
  have y5 := hR.cell 5
  have y6 := hR.cell 6
  have y7 := hR.cell 7
  have y8 := hR.cell 8
  have y9 := hR.cell 9
  have y10 := hR.cell 10
  have y11 := hR.cell 11
  have f0 := hR.free 0
  have f1 := hR.free 1
  have f2 := hR.free 2
  have f3 := hR.free 3
  have f4 := hR.free 4
  have f5 := hR.free 5
  have f6 := hR.free 6
  have f7 := hR.free 7
  have f8 := hR.free 8
  have f9 := hR.free 9
  have f10 := hR.free 10
  have f11 := hR.free 11
  go_wp2_with fail
  have E := ((((((((((((hR.set (o := 0) (.int .i64 0)).set (o := 1) (.int .u32 0)).set (o := 2) (.int .u32 0)).set (o := 3) (.int .u32 0)).set (o := 4) (.slice none 0 0)).set (o := 5) (.int .i64 0)).set (o := 6) (.int .u32 0)).set (o := 7) (.int .u32 0)).set (o := 8) (.int .u32 0)).set (o := 9) (.int .u32 0)).set (o := 10) (.int .u32 0)).set (o := 11) (.int .u32 0))
  have GE := ((((((((((((g0.setCell (b := R) (o := 0) (by omega) (.int .i64 0)).setCell (b := R) (o := 1) (by omega) (.int .u32 0)).setCell (b := R) (o := 2) (by omega) (.int .u32 0)).setCell (b := R) (o := 3) (by omega) (.int .u32 0)).setCell (b := R) (o := 4) (by omega) (.slice none 0 0)).setCell (b := R) (o := 5) (by omega) (.int .i64 0)).setCell (b := R) (o := 6) (by omega) (.int .u32 0)).setCell (b := R) (o := 7) (by omega) (.int .u32 0)).setCell (b := R) (o := 8) (by omega) (.int .u32 0)).setCell (b := R) (o := 9) (by omega) (.int .u32 0)).setCell (b := R) (o := 10) (by omega) (.int .u32 0)).setCell (b := R) (o := 11) (by omega) (.int .u32 0))
  have z0 := E.cell 0
  have z1 := E.cell 1
  have z2 := E.cell 2
  have z3 := E.cell 3
  have z4 := E.cell 4
  have z5 := E.cell 5
  have z6 := E.cell 6
  have z7 := E.cell 7
  have z8 := E.cell 8
  have z9 := E.cell 9
  have z10 := E.cell 10
  have z11 := E.cell 11
  exact bodyPost_ret (v := .tuple #[.agg #[.int .i64 0, .int .u32 0, .int .u32 0, .int .u32 0, .slice none 0 0, .int .i64 0, .int .u32 0, .int .u32 0, .int .u32 0, .int .u32 0, .int .u32 0, .int .u32 0], .int .i64 160]) (by simp [results, Try.results12, go_sem, z0, z1, z2, z3, z4, z5, z6, z7, z8, z9, z10, z11]) rfl ⟨rfl, GE⟩
set_option maxHeartbeats 4000000 in
theorem refGetD_head (a : Option Addr) (n c : Nat) (xs : List Int) (hs : 240 ≤ xs.length) (hlx : xs.length ≤ 140737488355328) {w : World} (hb : Buf w (.slice a n c) xs) (hh : hdOk xs = false) :
    Calls Try.prog 12 #[.slice a n c] w fun e w' => e = .returned (.tuple #[.agg #[.int .i64 0, .int .u32 0, .int .u32 0, .int .u32 0, .slice none 0 0, .int .i64 0, .int .u32 0, .int .u32 0, .int .u32 0, .int .u32 0, .int .u32 0, .int .u32 0], .int .i64 161]) ∧ Grew w w' := by
  obtain ⟨bb, hbb⟩ : ∃ bb, bb = !hdOk xs := ⟨_, rfl⟩
  have HBB := Lib.hid hbb
  have HBH := Lib.hid (show bb = true by rw [hbb, hh]; rfl)
  clear hbb hh
  have hn := hb.lenEq.1
  have hbk : xs ≠ [] := by rintro rfl; simp at hs
  obtain ⟨a', c', ea, _, ha⟩ := hb.shape
  obtain ⟨bk, off, rfl, hat⟩ := ha hbk
  simp only [Value.slice.injEq] at ea
  obtain ⟨rfl, -, -⟩ := ea
  have hz0 := hb.ok.getD 0
  have hz1 := hb.ok.getD 1
  have hz2 := hb.ok.getD 2
  have HAT := Lib.hid (fun w' (g : Grew w w') => hat.grew g)
  obtain ⟨a4, c4, H4, z1, hrun, z3, z4⟩ := hb.run_cut (lo := 236) (hi := 240) (by omega) (by omega)
  have r4 : ∀ w', (Instr.sliceAt 22 (.slice (some ⟨bk, off, none⟩) n c) (some (.int .i64 236)) (some (.int .i64 240)) none).run Try.prog w' = .ok (.slice a4 4 c4) w' := hrun .i64 .i64
  have hl4 : (cutL xs 236 240).length = 4 := by rw [cutL_length (by omega) (by omega)]
  have HN4 := Lib.hid (fun w' (g : Grew w w') => refNumber_c hl4 (H4.grew g))
  clear z1 z3 z4 hrun
  have k240 : ¬ ((n : Int) < 240) := by omega
  go_enter Try.func12, Try.ntmps12
  go_upto_region 1 with fail
  have hR : Blk (w.alloc (.cells #[.int .i64 0, .int .u32 0, .int .u32 0, .int .u32 0, .slice none 0 0, .int .i64 0, .int .u32 0, .int .u32 0, .int .u32 0, .int .u32 0, .int .u32 0, .int .u32 0] 26)) w.heap.size #[.int .i64 0, .int .u32 0, .int .u32 0, .int .u32 0, .slice none 0 0, .int .i64 0, .int .u32 0, .int .u32 0, .int .u32 0, .int .u32 0, .int .u32 0, .int .u32 0] 26 := Blk.new _ _ _ _ rfl
  have g0 : Grew w (w.alloc (.cells #[.int .i64 0, .int .u32 0, .int .u32 0, .int .u32 0, .slice none 0 0, .int .i64 0, .int .u32 0, .int .u32 0, .int .u32 0, .int .u32 0, .int .u32 0, .int .u32 0] 26)) := (Grew.refl _).alloc _
  generalize (w.alloc (.cells #[.int .i64 0, .int .u32 0, .int .u32 0, .int .u32 0, .slice none 0 0, .int .i64 0, .int .u32 0, .int .u32 0, .int .u32 0, .int .u32 0, .int .u32 0, .int .u32 0] 26)) = w0 at *
  generalize hlR : w.heap.size = R at *
  go_upto_region 3 with fail
  go_cut [43] (fun v wx => v = .bool bb ∧ wx = w0)
  case first =>
    have x0 := HAT.out _ g0 0 (by omega)
    rw [Nat.add_zero] at x0
    have x1 := HAT.out _ g0 1 (by omega)
    have x2 := HAT.out _ g0 2 (by omega)
    have l0 : (0 : Int) < (n : Nat) := by omega
    have l1 : (1 : Int) < (n : Nat) := by omega
    have l2 : (2 : Int) < (n : Nat) := by omega
    obtain ⟨b0, hb0⟩ : ∃ b0, b0 = (xs.getD 0 0 == 1 || xs.getD 0 0 == 2) := ⟨_, rfl⟩
    clear hb HAT
    have HBB' := HBB
    unfold hdOk at HBB'
    replace HBB := HBB'
    clear HBB' hb0 b0
    generalize xs.getD 0 0 = y0 at *
    generalize xs.getD 1 0 = y1 at *
    generalize xs.getD 2 0 = y2 at *
    generalize getV (cutL xs 236 240) true = y3 at *
    clear hn
    cases f1 : (y0 == 1)
    · have m1 : (y0 != 1) = true := by rw [bne, f1]; rfl
      cases f2 : (y0 == 2)
      · have m2 : (y0 != 2) = true := by rw [bne, f2]; rfl
        have e : bb = true := by rw [HBB.out, f1, f2]; rfl
        replace e := Lib.hid e
        go_wp2_with fail
        go_meet
        exact ⟨congrArg Value.bool e.out.symm, rfl⟩
      · have m2 : (y0 != 2) = false := by rw [bne, f2]; rfl
        cases e1 : (y1 == 1)
        · have n1 : (y1 != 1) = true := by rw [bne, e1]; rfl
          have e : bb = true := by rw [HBB.out]; rw [f1, f2, e1]; simp
          replace e := Lib.hid e
          go_wp2_with (go_at_call 25; refine (HN4.out _ g0).mono ?_; rintro e w1 ⟨rfl, h1⟩; obtain rfl := h1.symm)
          go_meet
          exact ⟨congrArg Value.bool e.out.symm, rfl⟩
        · have n1 : (y1 != 1) = false := by rw [bne, e1]; rfl
          cases e2 : (y2 == 6)
          · have n2 : (y2 != 6) = true := by rw [bne, e2]; rfl
            have e : bb = true := by rw [HBB.out]; rw [f1, f2, e1, e2]; simp
            replace e := Lib.hid e
            go_wp2_with (go_at_call 25; refine (HN4.out _ g0).mono ?_; rintro e w1 ⟨rfl, h1⟩; obtain rfl := h1.symm)
            go_meet
            exact ⟨congrArg Value.bool e.out.symm, rfl⟩
          · have n2 : (y2 != 6) = false := by rw [bne, e2]; rfl
            cases e3 : (y3 == 1669485411)
            · have n3 : (y3 != 1669485411) = true := by rw [bne, e3]; rfl
              have e : bb = true := by rw [HBB.out]; rw [f1, f2, e1, e2, e3]; simp
              replace e := Lib.hid e
              go_wp2_with (go_at_call 25; refine (HN4.out _ g0).mono ?_; rintro e w1 ⟨rfl, h1⟩; obtain rfl := h1.symm)
              go_meet
              exact ⟨congrArg Value.bool e.out.symm, rfl⟩
            · have n3 : (y3 != 1669485411) = false := by rw [bne, e3]; rfl
              have e : bb = false := by rw [HBB.out]; rw [f1, f2, e1, e2, e3]; simp
              replace e := Lib.hid e
              go_wp2_with (go_at_call 25; refine (HN4.out _ g0).mono ?_; rintro e w1 ⟨rfl, h1⟩; obtain rfl := h1.symm)
              go_meet
              exact ⟨congrArg Value.bool e.out.symm, rfl⟩
    · have m1 : (y0 != 1) = false := by rw [bne, f1]; rfl
      cases e1 : (y1 == 1)
      · have n1 : (y1 != 1) = true := by rw [bne, e1]; rfl
        have e : bb = true := by rw [HBB.out]; rw [f1, e1]; simp
        replace e := Lib.hid e
        go_wp2_with (go_at_call 25; refine (HN4.out _ g0).mono ?_; rintro e w1 ⟨rfl, h1⟩; obtain rfl := h1.symm)
        go_meet
        exact ⟨congrArg Value.bool e.out.symm, rfl⟩
      · have n1 : (y1 != 1) = false := by rw [bne, e1]; rfl
        cases e2 : (y2 == 6)
        · have n2 : (y2 != 6) = true := by rw [bne, e2]; rfl
          have e : bb = true := by rw [HBB.out]; rw [f1, e1, e2]; simp
          replace e := Lib.hid e
          go_wp2_with (go_at_call 25; refine (HN4.out _ g0).mono ?_; rintro e w1 ⟨rfl, h1⟩; obtain rfl := h1.symm)
          go_meet
          exact ⟨congrArg Value.bool e.out.symm, rfl⟩
        · have n2 : (y2 != 6) = false := by rw [bne, e2]; rfl
          cases e3 : (y3 == 1669485411)
          · have n3 : (y3 != 1669485411) = true := by rw [bne, e3]; rfl
            have e : bb = true := by rw [HBB.out]; rw [f1, e1, e2, e3]; simp
            replace e := Lib.hid e
            go_wp2_with (go_at_call 25; refine (HN4.out _ g0).mono ?_; rintro e w1 ⟨rfl, h1⟩; obtain rfl := h1.symm)
            go_meet
            exact ⟨congrArg Value.bool e.out.symm, rfl⟩
          · have n3 : (y3 != 1669485411) = false := by rw [bne, e3]; rfl
            have e : bb = false := by rw [HBB.out]; rw [f1, e1, e2, e3]; simp
            replace e := Lib.hid e
            go_wp2_with (go_at_call 25; refine (HN4.out _ g0).mono ?_; rintro e w1 ⟨rfl, h1⟩; obtain rfl := h1.symm)
            go_meet
            exact ⟨congrArg Value.bool e.out.symm, rfl⟩
  obtain ⟨rfl, hw⟩ := hcut
  obtain rfl := hw.symm
  clear hw
  rw [HBH.out]
  have y0 := hR.cell 0
  have y1 := hR.cell 1
  have y2 := hR.cell 2
  have y3 := hR.cell 3
  have y4 := hR.cell 4
  have y5 := hR.cell 5
  have y6 := hR.cell 6
  have y7 := hR.cell 7
  have y8 := hR.cell 8
  have y9 := hR.cell 9
  have y10 := hR.cell 10
  have y11 := hR.cell 11
  have f0 := hR.free 0
  have f1 := hR.free 1
  have f2 := hR.free 2
  have f3 := hR.free 3
  have f4 := hR.free 4
  have f5 := hR.free 5
  have f6 := hR.free 6
  have f7 := hR.free 7
  have f8 := hR.free 8
  have f9 := hR.free 9
  have f10 := hR.free 10
  have f11 := hR.free 11
  go_wp2_with fail
  have E := ((((((((((((hR.set (o := 0) (.int .i64 0)).set (o := 1) (.int .u32 0)).set (o := 2) (.int .u32 0)).set (o := 3) (.int .u32 0)).set (o := 4) (.slice none 0 0)).set (o := 5) (.int .i64 0)).set (o := 6) (.int .u32 0)).set (o := 7) (.int .u32 0)).set (o := 8) (.int .u32 0)).set (o := 9) (.int .u32 0)).set (o := 10) (.int .u32 0)).set (o := 11) (.int .u32 0))
  have GE := ((((((((((((g0.setCell (b := R) (o := 0) (by omega) (.int .i64 0)).setCell (b := R) (o := 1) (by omega) (.int .u32 0)).setCell (b := R) (o := 2) (by omega) (.int .u32 0)).setCell (b := R) (o := 3) (by omega) (.int .u32 0)).setCell (b := R) (o := 4) (by omega) (.slice none 0 0)).setCell (b := R) (o := 5) (by omega) (.int .i64 0)).setCell (b := R) (o := 6) (by omega) (.int .u32 0)).setCell (b := R) (o := 7) (by omega) (.int .u32 0)).setCell (b := R) (o := 8) (by omega) (.int .u32 0)).setCell (b := R) (o := 9) (by omega) (.int .u32 0)).setCell (b := R) (o := 10) (by omega) (.int .u32 0)).setCell (b := R) (o := 11) (by omega) (.int .u32 0))
  have z0 := E.cell 0
  have z1 := E.cell 1
  have z2 := E.cell 2
  have z3 := E.cell 3
  have z4 := E.cell 4
  have z5 := E.cell 5
  have z6 := E.cell 6
  have z7 := E.cell 7
  have z8 := E.cell 8
  have z9 := E.cell 9
  have z10 := E.cell 10
  have z11 := E.cell 11
  exact bodyPost_ret (v := .tuple #[.agg #[.int .i64 0, .int .u32 0, .int .u32 0, .int .u32 0, .slice none 0 0, .int .i64 0, .int .u32 0, .int .u32 0, .int .u32 0, .int .u32 0, .int .u32 0, .int .u32 0], .int .i64 161]) (by simp [results, Try.results12, go_sem, z0, z1, z2, z3, z4, z5, z6, z7, z8, z9, z10, z11]) rfl ⟨rfl, GE⟩
set_option maxHeartbeats 4000000 in
theorem refGetD_form (a : Option Addr) (n c : Nat) (xs : List Int) (hs : 240 ≤ xs.length) (hlx : xs.length ≤ 140737488355328) {w : World} (hb : Buf w (.slice a n c) xs) (hh : hdOk xs = true) (hf : (optV (xs.drop 240)).2 = false) :
    Calls Try.prog 12 #[.slice a n c] w fun e w' => e = .returned (.tuple #[.agg #[.int .i64 0, .int .u32 0, .int .u32 0, .int .u32 0, .slice none 0 0, .int .i64 0, .int .u32 0, .int .u32 0, .int .u32 0, .int .u32 0, .int .u32 0, .int .u32 0], .int .i64 161]) ∧ Grew w w' := by
  obtain ⟨bb, hbb⟩ : ∃ bb, bb = !hdOk xs := ⟨_, rfl⟩
  have HBB := Lib.hid hbb
  have HBH := Lib.hid (show bb = false by rw [hbb, hh]; rfl)
  clear hbb hh
  have hn := hb.lenEq.1
  have hbk : xs ≠ [] := by rintro rfl; simp at hs
  obtain ⟨a', c', ea, _, ha⟩ := hb.shape
  obtain ⟨bk, off, rfl, hat⟩ := ha hbk
  simp only [Value.slice.injEq] at ea
  obtain ⟨rfl, -, -⟩ := ea
  have hz0 := hb.ok.getD 0
  have hz1 := hb.ok.getD 1
  have hz2 := hb.ok.getD 2
  have HAT := Lib.hid (fun w' (g : Grew w w') => hat.grew g)
  obtain ⟨a4, c4, H4, z1, hrun, z3, z4⟩ := hb.run_cut (lo := 236) (hi := 240) (by omega) (by omega)
  have r4 : ∀ w', (Instr.sliceAt 22 (.slice (some ⟨bk, off, none⟩) n c) (some (.int .i64 236)) (some (.int .i64 240)) none).run Try.prog w' = .ok (.slice a4 4 c4) w' := hrun .i64 .i64
  have hl4 : (cutL xs 236 240).length = 4 := by rw [cutL_length (by omega) (by omega)]
  have HN4 := Lib.hid (fun w' (g : Grew w w') => refNumber_c hl4 (H4.grew g))
  clear z1 z3 z4 hrun
  have k240 : ¬ ((n : Int) < 240) := by omega
  go_enter Try.func12, Try.ntmps12
  go_upto_region 1 with fail
  have hR : Blk (w.alloc (.cells #[.int .i64 0, .int .u32 0, .int .u32 0, .int .u32 0, .slice none 0 0, .int .i64 0, .int .u32 0, .int .u32 0, .int .u32 0, .int .u32 0, .int .u32 0, .int .u32 0] 26)) w.heap.size #[.int .i64 0, .int .u32 0, .int .u32 0, .int .u32 0, .slice none 0 0, .int .i64 0, .int .u32 0, .int .u32 0, .int .u32 0, .int .u32 0, .int .u32 0, .int .u32 0] 26 := Blk.new _ _ _ _ rfl
  have g0 : Grew w (w.alloc (.cells #[.int .i64 0, .int .u32 0, .int .u32 0, .int .u32 0, .slice none 0 0, .int .i64 0, .int .u32 0, .int .u32 0, .int .u32 0, .int .u32 0, .int .u32 0, .int .u32 0] 26)) := (Grew.refl _).alloc _
  generalize (w.alloc (.cells #[.int .i64 0, .int .u32 0, .int .u32 0, .int .u32 0, .slice none 0 0, .int .i64 0, .int .u32 0, .int .u32 0, .int .u32 0, .int .u32 0, .int .u32 0, .int .u32 0] 26)) = w0 at *
  generalize hlR : w.heap.size = R at *
  go_upto_region 3 with fail
  go_cut [43] (fun v wx => v = .bool bb ∧ wx = w0)
  case first =>
    have x0 := HAT.out _ g0 0 (by omega)
    rw [Nat.add_zero] at x0
    have x1 := HAT.out _ g0 1 (by omega)
    have x2 := HAT.out _ g0 2 (by omega)
    have l0 : (0 : Int) < (n : Nat) := by omega
    have l1 : (1 : Int) < (n : Nat) := by omega
    have l2 : (2 : Int) < (n : Nat) := by omega
    obtain ⟨b0, hb0⟩ : ∃ b0, b0 = (xs.getD 0 0 == 1 || xs.getD 0 0 == 2) := ⟨_, rfl⟩
    clear hb HAT
    have HBB' := HBB
    unfold hdOk at HBB'
    replace HBB := HBB'
    clear HBB' hb0 b0
    generalize xs.getD 0 0 = y0 at *
    generalize xs.getD 1 0 = y1 at *
    generalize xs.getD 2 0 = y2 at *
    generalize getV (cutL xs 236 240) true = y3 at *
    clear hn
    cases f1 : (y0 == 1)
    · have m1 : (y0 != 1) = true := by rw [bne, f1]; rfl
      cases f2 : (y0 == 2)
      · have m2 : (y0 != 2) = true := by rw [bne, f2]; rfl
        have e : bb = true := by rw [HBB.out, f1, f2]; rfl
        replace e := Lib.hid e
        go_wp2_with fail
        go_meet
        exact ⟨congrArg Value.bool e.out.symm, rfl⟩
      · have m2 : (y0 != 2) = false := by rw [bne, f2]; rfl
        cases e1 : (y1 == 1)
        · have n1 : (y1 != 1) = true := by rw [bne, e1]; rfl
          have e : bb = true := by rw [HBB.out]; rw [f1, f2, e1]; simp
          replace e := Lib.hid e
          go_wp2_with (go_at_call 25; refine (HN4.out _ g0).mono ?_; rintro e w1 ⟨rfl, h1⟩; obtain rfl := h1.symm)
          go_meet
          exact ⟨congrArg Value.bool e.out.symm, rfl⟩
        · have n1 : (y1 != 1) = false := by rw [bne, e1]; rfl
          cases e2 : (y2 == 6)
          · have n2 : (y2 != 6) = true := by rw [bne, e2]; rfl
            have e : bb = true := by rw [HBB.out]; rw [f1, f2, e1, e2]; simp
            replace e := Lib.hid e
            go_wp2_with (go_at_call 25; refine (HN4.out _ g0).mono ?_; rintro e w1 ⟨rfl, h1⟩; obtain rfl := h1.symm)
            go_meet
            exact ⟨congrArg Value.bool e.out.symm, rfl⟩
          · have n2 : (y2 != 6) = false := by rw [bne, e2]; rfl
            cases e3 : (y3 == 1669485411)
            · have n3 : (y3 != 1669485411) = true := by rw [bne, e3]; rfl
              have e : bb = true := by rw [HBB.out]; rw [f1, f2, e1, e2, e3]; simp
              replace e := Lib.hid e
              go_wp2_with (go_at_call 25; refine (HN4.out _ g0).mono ?_; rintro e w1 ⟨rfl, h1⟩; obtain rfl := h1.symm)
              go_meet
              exact ⟨congrArg Value.bool e.out.symm, rfl⟩
            · have n3 : (y3 != 1669485411) = false := by rw [bne, e3]; rfl
              have e : bb = false := by rw [HBB.out]; rw [f1, f2, e1, e2, e3]; simp
              replace e := Lib.hid e
              go_wp2_with (go_at_call 25; refine (HN4.out _ g0).mono ?_; rintro e w1 ⟨rfl, h1⟩; obtain rfl := h1.symm)
              go_meet
              exact ⟨congrArg Value.bool e.out.symm, rfl⟩
    · have m1 : (y0 != 1) = false := by rw [bne, f1]; rfl
      cases e1 : (y1 == 1)
      · have n1 : (y1 != 1) = true := by rw [bne, e1]; rfl
        have e : bb = true := by rw [HBB.out]; rw [f1, e1]; simp
        replace e := Lib.hid e
        go_wp2_with (go_at_call 25; refine (HN4.out _ g0).mono ?_; rintro e w1 ⟨rfl, h1⟩; obtain rfl := h1.symm)
        go_meet
        exact ⟨congrArg Value.bool e.out.symm, rfl⟩
      · have n1 : (y1 != 1) = false := by rw [bne, e1]; rfl
        cases e2 : (y2 == 6)
        · have n2 : (y2 != 6) = true := by rw [bne, e2]; rfl
          have e : bb = true := by rw [HBB.out]; rw [f1, e1, e2]; simp
          replace e := Lib.hid e
          go_wp2_with (go_at_call 25; refine (HN4.out _ g0).mono ?_; rintro e w1 ⟨rfl, h1⟩; obtain rfl := h1.symm)
          go_meet
          exact ⟨congrArg Value.bool e.out.symm, rfl⟩
        · have n2 : (y2 != 6) = false := by rw [bne, e2]; rfl
          cases e3 : (y3 == 1669485411)
          · have n3 : (y3 != 1669485411) = true := by rw [bne, e3]; rfl
            have e : bb = true := by rw [HBB.out]; rw [f1, e1, e2, e3]; simp
            replace e := Lib.hid e
            go_wp2_with (go_at_call 25; refine (HN4.out _ g0).mono ?_; rintro e w1 ⟨rfl, h1⟩; obtain rfl := h1.symm)
            go_meet
            exact ⟨congrArg Value.bool e.out.symm, rfl⟩
          · have n3 : (y3 != 1669485411) = false := by rw [bne, e3]; rfl
            have e : bb = false := by rw [HBB.out]; rw [f1, e1, e2, e3]; simp
            replace e := Lib.hid e
            go_wp2_with (go_at_call 25; refine (HN4.out _ g0).mono ?_; rintro e w1 ⟨rfl, h1⟩; obtain rfl := h1.symm)
            go_meet
            exact ⟨congrArg Value.bool e.out.symm, rfl⟩
  obtain ⟨rfl, hw⟩ := hcut
  obtain rfl := hw.symm
  clear hw
  rw [HBH.out]
  clear HBB HBH
  obtain ⟨a5, c5, H5, z1, z2, z3, hrun⟩ := hb.run_cut (lo := 240) (hi := xs.length) (by omega) (Nat.le_refl _)
  rw [cutL_rest] at H5
  have r5 : ∀ w', (Instr.sliceAt 22 (.slice (some ⟨bk, off, none⟩) n c) (some (.int .i64 240)) none none).run Try.prog w' = .ok (.slice a5 (xs.length - 240) c5) w' := hrun rfl .i64
  have hod : (xs.drop 240).length ≤ 140737488355328 := by rw [List.length_drop]; omega
  have HOS := Lib.hid H5
  have HF0 := Lib.hid (fun w' (g : Grew w w') => find_c 0 300 false (by omega) (by omega) hod (H5.grew g))
  have HF1 := Lib.hid (fun w' (g : Grew w w') => find_c 53 1 false (by omega) (by omega) hod (H5.grew g))
  rw [fndV_form] at HF0
  clear z1 z2 z3 hrun H5
  rw [hf] at HF0
  clear hf
  clear HN4 r4 hl4 hn HAT hat ha
  generalize xs.drop 240 = os at *
  generalize xs.length - 240 = m at *
  go_wp2_with fail
  refine (HF0.out _ g0).mono ?_
  rintro e w1 ⟨u0, rfl, -, h1⟩
  obtain rfl := h1.symm
  go_wp2_with fail
  refine (HF1.out _ g0).mono ?_
  rintro e w1 ⟨u1, rfl, hb1, h1⟩
  obtain rfl := h1.symm
  clear hb1
  have y0 := hR.cell 0
  have y1 := hR.cell 1
  have y2 := hR.cell 2
  have y3 := hR.cell 3
  have y4 := hR.cell 4
  have y5 := hR.cell 5
  have y6 := hR.cell 6
  have y7 := hR.cell 7
  have y8 := hR.cell 8
  have y9 := hR.cell 9
  have y10 := hR.cell 10
  have y11 := hR.cell 11
  have f0 := hR.free 0
  have f1 := hR.free 1
  have f2 := hR.free 2
  have f3 := hR.free 3
  have f4 := hR.free 4
  have f5 := hR.free 5
  have f6 := hR.free 6
  have f7 := hR.free 7
  have f8 := hR.free 8
  have f9 := hR.free 9
  have f10 := hR.free 10
  have f11 := hR.free 11
  go_wp2_with fail
  have E := ((((((((((((hR.set (o := 0) (.int .i64 0)).set (o := 1) (.int .u32 0)).set (o := 2) (.int .u32 0)).set (o := 3) (.int .u32 0)).set (o := 4) (.slice none 0 0)).set (o := 5) (.int .i64 0)).set (o := 6) (.int .u32 0)).set (o := 7) (.int .u32 0)).set (o := 8) (.int .u32 0)).set (o := 9) (.int .u32 0)).set (o := 10) (.int .u32 0)).set (o := 11) (.int .u32 0))
  have GE := ((((((((((((g0.setCell (b := R) (o := 0) (by omega) (.int .i64 0)).setCell (b := R) (o := 1) (by omega) (.int .u32 0)).setCell (b := R) (o := 2) (by omega) (.int .u32 0)).setCell (b := R) (o := 3) (by omega) (.int .u32 0)).setCell (b := R) (o := 4) (by omega) (.slice none 0 0)).setCell (b := R) (o := 5) (by omega) (.int .i64 0)).setCell (b := R) (o := 6) (by omega) (.int .u32 0)).setCell (b := R) (o := 7) (by omega) (.int .u32 0)).setCell (b := R) (o := 8) (by omega) (.int .u32 0)).setCell (b := R) (o := 9) (by omega) (.int .u32 0)).setCell (b := R) (o := 10) (by omega) (.int .u32 0)).setCell (b := R) (o := 11) (by omega) (.int .u32 0))
  have z0 := E.cell 0
  have z1 := E.cell 1
  have z2 := E.cell 2
  have z3 := E.cell 3
  have z4 := E.cell 4
  have z5 := E.cell 5
  have z6 := E.cell 6
  have z7 := E.cell 7
  have z8 := E.cell 8
  have z9 := E.cell 9
  have z10 := E.cell 10
  have z11 := E.cell 11
  exact bodyPost_ret (v := .tuple #[.agg #[.int .i64 0, .int .u32 0, .int .u32 0, .int .u32 0, .slice none 0 0, .int .i64 0, .int .u32 0, .int .u32 0, .int .u32 0, .int .u32 0, .int .u32 0, .int .u32 0], .int .i64 161]) (by simp [results, Try.results12, go_sem, z0, z1, z2, z3, z4, z5, z6, z7, z8, z9, z10, z11]) rfl ⟨rfl, GE⟩
set_option maxHeartbeats 4000000 in
theorem refGetD_none (a : Option Addr) (n c : Nat) (xs : List Int) (hs : 240 ≤ xs.length) (hlx : xs.length ≤ 140737488355328) {w : World} (hb : Buf w (.slice a n c) xs) (hh : hdOk xs = true) (hf : (optV (xs.drop 240)).2 = true) (hd : fstV (optV (xs.drop 240)).1 53 1 false = none) :
    Calls Try.prog 12 #[.slice a n c] w fun e w' => e = .returned (.tuple #[.agg #[.int .i64 0, .int .u32 0, .int .u32 0, .int .u32 0, .slice none 0 0, .int .i64 0, .int .u32 0, .int .u32 0, .int .u32 0, .int .u32 0, .int .u32 0, .int .u32 0], .int .i64 161]) ∧ Grew w w' := by
  obtain ⟨bb, hbb⟩ : ∃ bb, bb = !hdOk xs := ⟨_, rfl⟩
  have HBB := Lib.hid hbb
  have HBH := Lib.hid (show bb = false by rw [hbb, hh]; rfl)
  clear hbb hh
  have hn := hb.lenEq.1
  have hbk : xs ≠ [] := by rintro rfl; simp at hs
  obtain ⟨a', c', ea, _, ha⟩ := hb.shape
  obtain ⟨bk, off, rfl, hat⟩ := ha hbk
  simp only [Value.slice.injEq] at ea
  obtain ⟨rfl, -, -⟩ := ea
  have hz0 := hb.ok.getD 0
  have hz1 := hb.ok.getD 1
  have hz2 := hb.ok.getD 2
  have HAT := Lib.hid (fun w' (g : Grew w w') => hat.grew g)
  obtain ⟨a4, c4, H4, z1, hrun, z3, z4⟩ := hb.run_cut (lo := 236) (hi := 240) (by omega) (by omega)
  have r4 : ∀ w', (Instr.sliceAt 22 (.slice (some ⟨bk, off, none⟩) n c) (some (.int .i64 236)) (some (.int .i64 240)) none).run Try.prog w' = .ok (.slice a4 4 c4) w' := hrun .i64 .i64
  have hl4 : (cutL xs 236 240).length = 4 := by rw [cutL_length (by omega) (by omega)]
  have HN4 := Lib.hid (fun w' (g : Grew w w') => refNumber_c hl4 (H4.grew g))
  clear z1 z3 z4 hrun
  have k240 : ¬ ((n : Int) < 240) := by omega
  go_enter Try.func12, Try.ntmps12
  go_upto_region 1 with fail
  have hR : Blk (w.alloc (.cells #[.int .i64 0, .int .u32 0, .int .u32 0, .int .u32 0, .slice none 0 0, .int .i64 0, .int .u32 0, .int .u32 0, .int .u32 0, .int .u32 0, .int .u32 0, .int .u32 0] 26)) w.heap.size #[.int .i64 0, .int .u32 0, .int .u32 0, .int .u32 0, .slice none 0 0, .int .i64 0, .int .u32 0, .int .u32 0, .int .u32 0, .int .u32 0, .int .u32 0, .int .u32 0] 26 := Blk.new _ _ _ _ rfl
  have g0 : Grew w (w.alloc (.cells #[.int .i64 0, .int .u32 0, .int .u32 0, .int .u32 0, .slice none 0 0, .int .i64 0, .int .u32 0, .int .u32 0, .int .u32 0, .int .u32 0, .int .u32 0, .int .u32 0] 26)) := (Grew.refl _).alloc _
  generalize (w.alloc (.cells #[.int .i64 0, .int .u32 0, .int .u32 0, .int .u32 0, .slice none 0 0, .int .i64 0, .int .u32 0, .int .u32 0, .int .u32 0, .int .u32 0, .int .u32 0, .int .u32 0] 26)) = w0 at *
  generalize hlR : w.heap.size = R at *
  go_upto_region 3 with fail
  go_cut [43] (fun v wx => v = .bool bb ∧ wx = w0)
  case first =>
    have x0 := HAT.out _ g0 0 (by omega)
    rw [Nat.add_zero] at x0
    have x1 := HAT.out _ g0 1 (by omega)
    have x2 := HAT.out _ g0 2 (by omega)
    have l0 : (0 : Int) < (n : Nat) := by omega
    have l1 : (1 : Int) < (n : Nat) := by omega
    have l2 : (2 : Int) < (n : Nat) := by omega
    obtain ⟨b0, hb0⟩ : ∃ b0, b0 = (xs.getD 0 0 == 1 || xs.getD 0 0 == 2) := ⟨_, rfl⟩
    clear hb HAT
    have HBB' := HBB
    unfold hdOk at HBB'
    replace HBB := HBB'
    clear HBB' hb0 b0
    generalize xs.getD 0 0 = y0 at *
    generalize xs.getD 1 0 = y1 at *
    generalize xs.getD 2 0 = y2 at *
    generalize getV (cutL xs 236 240) true = y3 at *
    clear hn
    cases f1 : (y0 == 1)
    · have m1 : (y0 != 1) = true := by rw [bne, f1]; rfl
      cases f2 : (y0 == 2)
      · have m2 : (y0 != 2) = true := by rw [bne, f2]; rfl
        have e : bb = true := by rw [HBB.out, f1, f2]; rfl
        replace e := Lib.hid e
        go_wp2_with fail
        go_meet
        exact ⟨congrArg Value.bool e.out.symm, rfl⟩
      · have m2 : (y0 != 2) = false := by rw [bne, f2]; rfl
        cases e1 : (y1 == 1)
        · have n1 : (y1 != 1) = true := by rw [bne, e1]; rfl
          have e : bb = true := by rw [HBB.out]; rw [f1, f2, e1]; simp
          replace e := Lib.hid e
          go_wp2_with (go_at_call 25; refine (HN4.out _ g0).mono ?_; rintro e w1 ⟨rfl, h1⟩; obtain rfl := h1.symm)
          go_meet
          exact ⟨congrArg Value.bool e.out.symm, rfl⟩
        · have n1 : (y1 != 1) = false := by rw [bne, e1]; rfl
          cases e2 : (y2 == 6)
          · have n2 : (y2 != 6) = true := by rw [bne, e2]; rfl
            have e : bb = true := by rw [HBB.out]; rw [f1, f2, e1, e2]; simp
            replace e := Lib.hid e
            go_wp2_with (go_at_call 25; refine (HN4.out _ g0).mono ?_; rintro e w1 ⟨rfl, h1⟩; obtain rfl := h1.symm)
            go_meet
            exact ⟨congrArg Value.bool e.out.symm, rfl⟩
          · have n2 : (y2 != 6) = false := by rw [bne, e2]; rfl
            cases e3 : (y3 == 1669485411)
            · have n3 : (y3 != 1669485411) = true := by rw [bne, e3]; rfl
              have e : bb = true := by rw [HBB.out]; rw [f1, f2, e1, e2, e3]; simp
              replace e := Lib.hid e
              go_wp2_with (go_at_call 25; refine (HN4.out _ g0).mono ?_; rintro e w1 ⟨rfl, h1⟩; obtain rfl := h1.symm)
              go_meet
              exact ⟨congrArg Value.bool e.out.symm, rfl⟩
            · have n3 : (y3 != 1669485411) = false := by rw [bne, e3]; rfl
              have e : bb = false := by rw [HBB.out]; rw [f1, f2, e1, e2, e3]; simp
              replace e := Lib.hid e
              go_wp2_with (go_at_call 25; refine (HN4.out _ g0).mono ?_; rintro e w1 ⟨rfl, h1⟩; obtain rfl := h1.symm)
              go_meet
              exact ⟨congrArg Value.bool e.out.symm, rfl⟩
    · have m1 : (y0 != 1) = false := by rw [bne, f1]; rfl
      cases e1 : (y1 == 1)
      · have n1 : (y1 != 1) = true := by rw [bne, e1]; rfl
        have e : bb = true := by rw [HBB.out]; rw [f1, e1]; simp
        replace e := Lib.hid e
        go_wp2_with (go_at_call 25; refine (HN4.out _ g0).mono ?_; rintro e w1 ⟨rfl, h1⟩; obtain rfl := h1.symm)
        go_meet
        exact ⟨congrArg Value.bool e.out.symm, rfl⟩
      · have n1 : (y1 != 1) = false := by rw [bne, e1]; rfl
        cases e2 : (y2 == 6)
        · have n2 : (y2 != 6) = true := by rw [bne, e2]; rfl
          have e : bb = true := by rw [HBB.out]; rw [f1, e1, e2]; simp
          replace e := Lib.hid e
          go_wp2_with (go_at_call 25; refine (HN4.out _ g0).mono ?_; rintro e w1 ⟨rfl, h1⟩; obtain rfl := h1.symm)
          go_meet
          exact ⟨congrArg Value.bool e.out.symm, rfl⟩
        · have n2 : (y2 != 6) = false := by rw [bne, e2]; rfl
          cases e3 : (y3 == 1669485411)
          · have n3 : (y3 != 1669485411) = true := by rw [bne, e3]; rfl
            have e : bb = true := by rw [HBB.out]; rw [f1, e1, e2, e3]; simp
            replace e := Lib.hid e
            go_wp2_with (go_at_call 25; refine (HN4.out _ g0).mono ?_; rintro e w1 ⟨rfl, h1⟩; obtain rfl := h1.symm)
            go_meet
            exact ⟨congrArg Value.bool e.out.symm, rfl⟩
          · have n3 : (y3 != 1669485411) = false := by rw [bne, e3]; rfl
            have e : bb = false := by rw [HBB.out]; rw [f1, e1, e2, e3]; simp
            replace e := Lib.hid e
            go_wp2_with (go_at_call 25; refine (HN4.out _ g0).mono ?_; rintro e w1 ⟨rfl, h1⟩; obtain rfl := h1.symm)
            go_meet
            exact ⟨congrArg Value.bool e.out.symm, rfl⟩
  obtain ⟨rfl, hw⟩ := hcut
  obtain rfl := hw.symm
  clear hw
  rw [HBH.out]
  clear HBB HBH
  obtain ⟨a5, c5, H5, z1, z2, z3, hrun⟩ := hb.run_cut (lo := 240) (hi := xs.length) (by omega) (Nat.le_refl _)
  rw [cutL_rest] at H5
  have r5 : ∀ w', (Instr.sliceAt 22 (.slice (some ⟨bk, off, none⟩) n c) (some (.int .i64 240)) none none).run Try.prog w' = .ok (.slice a5 (xs.length - 240) c5) w' := hrun rfl .i64
  have hod : (xs.drop 240).length ≤ 140737488355328 := by rw [List.length_drop]; omega
  have HOS := Lib.hid H5
  have HF0 := Lib.hid (fun w' (g : Grew w w') => find_c 0 300 false (by omega) (by omega) hod (H5.grew g))
  have HF1 := Lib.hid (fun w' (g : Grew w w') => find_c 53 1 false (by omega) (by omega) hod (H5.grew g))
  rw [fndV_form] at HF0
  clear z1 z2 z3 hrun H5
  rw [hf] at HF0
  rw [show fndV (xs.drop 240) 53 1 false = ([], false, true) by unfold fndV; rw [hd, hf]] at HF1
  clear hf hd
  clear HN4 r4 hl4 hn HAT hat ha
  generalize xs.drop 240 = os at *
  generalize xs.length - 240 = m at *
  go_wp2_with fail
  refine (HF0.out _ g0).mono ?_
  rintro e w1 ⟨u0, rfl, -, h1⟩
  obtain rfl := h1.symm
  go_wp2_with fail
  refine (HF1.out _ g0).mono ?_
  rintro e w1 ⟨u1, rfl, hb1, h1⟩
  obtain rfl := h1.symm
  clear hb1
  have y0 := hR.cell 0
  have y1 := hR.cell 1
  have y2 := hR.cell 2
  have y3 := hR.cell 3
  have y4 := hR.cell 4
  have y5 := hR.cell 5
  have y6 := hR.cell 6
  have y7 := hR.cell 7
  have y8 := hR.cell 8
  have y9 := hR.cell 9
  have y10 := hR.cell 10
  have y11 := hR.cell 11
  have f0 := hR.free 0
  have f1 := hR.free 1
  have f2 := hR.free 2
  have f3 := hR.free 3
  have f4 := hR.free 4
  have f5 := hR.free 5
  have f6 := hR.free 6
  have f7 := hR.free 7
  have f8 := hR.free 8
  have f9 := hR.free 9
  have f10 := hR.free 10
  have f11 := hR.free 11
  go_wp2_with fail
  have E := ((((((((((((hR.set (o := 0) (.int .i64 0)).set (o := 1) (.int .u32 0)).set (o := 2) (.int .u32 0)).set (o := 3) (.int .u32 0)).set (o := 4) (.slice none 0 0)).set (o := 5) (.int .i64 0)).set (o := 6) (.int .u32 0)).set (o := 7) (.int .u32 0)).set (o := 8) (.int .u32 0)).set (o := 9) (.int .u32 0)).set (o := 10) (.int .u32 0)).set (o := 11) (.int .u32 0))
  have GE := ((((((((((((g0.setCell (b := R) (o := 0) (by omega) (.int .i64 0)).setCell (b := R) (o := 1) (by omega) (.int .u32 0)).setCell (b := R) (o := 2) (by omega) (.int .u32 0)).setCell (b := R) (o := 3) (by omega) (.int .u32 0)).setCell (b := R) (o := 4) (by omega) (.slice none 0 0)).setCell (b := R) (o := 5) (by omega) (.int .i64 0)).setCell (b := R) (o := 6) (by omega) (.int .u32 0)).setCell (b := R) (o := 7) (by omega) (.int .u32 0)).setCell (b := R) (o := 8) (by omega) (.int .u32 0)).setCell (b := R) (o := 9) (by omega) (.int .u32 0)).setCell (b := R) (o := 10) (by omega) (.int .u32 0)).setCell (b := R) (o := 11) (by omega) (.int .u32 0))
  have z0 := E.cell 0
  have z1 := E.cell 1
  have z2 := E.cell 2
  have z3 := E.cell 3
  have z4 := E.cell 4
  have z5 := E.cell 5
  have z6 := E.cell 6
  have z7 := E.cell 7
  have z8 := E.cell 8
  have z9 := E.cell 9
  have z10 := E.cell 10
  have z11 := E.cell 11
  exact bodyPost_ret (v := .tuple #[.agg #[.int .i64 0, .int .u32 0, .int .u32 0, .int .u32 0, .slice none 0 0, .int .i64 0, .int .u32 0, .int .u32 0, .int .u32 0, .int .u32 0, .int .u32 0, .int .u32 0], .int .i64 161]) (by simp [results, Try.results12, go_sem, z0, z1, z2, z3, z4, z5, z6, z7, z8, z9, z10, z11]) rfl ⟨rfl, GE⟩
set_option maxHeartbeats 4000000 in
theorem refGetD_low (a : Option Addr) (n c : Nat) (xs : List Int) (hs : 240 ≤ xs.length) (hlx : xs.length ≤ 140737488355328) {w : World} (hb : Buf w (.slice a n c) xs) (hh : hdOk xs = true) (hf : (optV (xs.drop 240)).2 = true) (d : List Int) (hd : fstV (optV (xs.drop 240)).1 53 1 false = some d) (hd1 : d.length = 1) (ht : d.getD 0 0 < 1) :
    Calls Try.prog 12 #[.slice a n c] w fun e w' => e = .returned (.tuple #[.agg #[.int .i64 0, .int .u32 0, .int .u32 0, .int .u32 0, .slice none 0 0, .int .i64 0, .int .u32 0, .int .u32 0, .int .u32 0, .int .u32 0, .int .u32 0, .int .u32 0], .int .i64 161]) ∧ Grew w w' := by
  obtain ⟨bb, hbb⟩ : ∃ bb, bb = !hdOk xs := ⟨_, rfl⟩
  have HBB := Lib.hid hbb
  have HBH := Lib.hid (show bb = false by rw [hbb, hh]; rfl)
  clear hbb hh
  have hn := hb.lenEq.1
  have hbk : xs ≠ [] := by rintro rfl; simp at hs
  obtain ⟨a', c', ea, _, ha⟩ := hb.shape
  obtain ⟨bk, off, rfl, hat⟩ := ha hbk
  simp only [Value.slice.injEq] at ea
  obtain ⟨rfl, -, -⟩ := ea
  have hz0 := hb.ok.getD 0
  have hz1 := hb.ok.getD 1
  have hz2 := hb.ok.getD 2
  have HAT := Lib.hid (fun w' (g : Grew w w') => hat.grew g)
  obtain ⟨a4, c4, H4, z1, hrun, z3, z4⟩ := hb.run_cut (lo := 236) (hi := 240) (by omega) (by omega)
  have r4 : ∀ w', (Instr.sliceAt 22 (.slice (some ⟨bk, off, none⟩) n c) (some (.int .i64 236)) (some (.int .i64 240)) none).run Try.prog w' = .ok (.slice a4 4 c4) w' := hrun .i64 .i64
  have hl4 : (cutL xs 236 240).length = 4 := by rw [cutL_length (by omega) (by omega)]
  have HN4 := Lib.hid (fun w' (g : Grew w w') => refNumber_c hl4 (H4.grew g))
  clear z1 z3 z4 hrun
  have k240 : ¬ ((n : Int) < 240) := by omega
  go_enter Try.func12, Try.ntmps12
  go_upto_region 1 with fail
  have hR : Blk (w.alloc (.cells #[.int .i64 0, .int .u32 0, .int .u32 0, .int .u32 0, .slice none 0 0, .int .i64 0, .int .u32 0, .int .u32 0, .int .u32 0, .int .u32 0, .int .u32 0, .int .u32 0] 26)) w.heap.size #[.int .i64 0, .int .u32 0, .int .u32 0, .int .u32 0, .slice none 0 0, .int .i64 0, .int .u32 0, .int .u32 0, .int .u32 0, .int .u32 0, .int .u32 0, .int .u32 0] 26 := Blk.new _ _ _ _ rfl
  have g0 : Grew w (w.alloc (.cells #[.int .i64 0, .int .u32 0, .int .u32 0, .int .u32 0, .slice none 0 0, .int .i64 0, .int .u32 0, .int .u32 0, .int .u32 0, .int .u32 0, .int .u32 0, .int .u32 0] 26)) := (Grew.refl _).alloc _
  generalize (w.alloc (.cells #[.int .i64 0, .int .u32 0, .int .u32 0, .int .u32 0, .slice none 0 0, .int .i64 0, .int .u32 0, .int .u32 0, .int .u32 0, .int .u32 0, .int .u32 0, .int .u32 0] 26)) = w0 at *
  generalize hlR : w.heap.size = R at *
  go_upto_region 3 with fail
  go_cut [43] (fun v wx => v = .bool bb ∧ wx = w0)
  case first =>
    have x0 := HAT.out _ g0 0 (by omega)
    rw [Nat.add_zero] at x0
    have x1 := HAT.out _ g0 1 (by omega)
    have x2 := HAT.out _ g0 2 (by omega)
    have l0 : (0 : Int) < (n : Nat) := by omega
    have l1 : (1 : Int) < (n : Nat) := by omega
    have l2 : (2 : Int) < (n : Nat) := by omega
    obtain ⟨b0, hb0⟩ : ∃ b0, b0 = (xs.getD 0 0 == 1 || xs.getD 0 0 == 2) := ⟨_, rfl⟩
    clear hb HAT
    have HBB' := HBB
    unfold hdOk at HBB'
    replace HBB := HBB'
    clear HBB' hb0 b0
    generalize xs.getD 0 0 = y0 at *
    generalize xs.getD 1 0 = y1 at *
    generalize xs.getD 2 0 = y2 at *
    generalize getV (cutL xs 236 240) true = y3 at *
    clear hn
    cases f1 : (y0 == 1)
    · have m1 : (y0 != 1) = true := by rw [bne, f1]; rfl
      cases f2 : (y0 == 2)
      · have m2 : (y0 != 2) = true := by rw [bne, f2]; rfl
        have e : bb = true := by rw [HBB.out, f1, f2]; rfl
        replace e := Lib.hid e
        go_wp2_with fail
        go_meet
        exact ⟨congrArg Value.bool e.out.symm, rfl⟩
      · have m2 : (y0 != 2) = false := by rw [bne, f2]; rfl
        cases e1 : (y1 == 1)
        · have n1 : (y1 != 1) = true := by rw [bne, e1]; rfl
          have e : bb = true := by rw [HBB.out]; rw [f1, f2, e1]; simp
          replace e := Lib.hid e
          go_wp2_with (go_at_call 25; refine (HN4.out _ g0).mono ?_; rintro e w1 ⟨rfl, h1⟩; obtain rfl := h1.symm)
          go_meet
          exact ⟨congrArg Value.bool e.out.symm, rfl⟩
        · have n1 : (y1 != 1) = false := by rw [bne, e1]; rfl
          cases e2 : (y2 == 6)
          · have n2 : (y2 != 6) = true := by rw [bne, e2]; rfl
            have e : bb = true := by rw [HBB.out]; rw [f1, f2, e1, e2]; simp
            replace e := Lib.hid e
            go_wp2_with (go_at_call 25; refine (HN4.out _ g0).mono ?_; rintro e w1 ⟨rfl, h1⟩; obtain rfl := h1.symm)
            go_meet
            exact ⟨congrArg Value.bool e.out.symm, rfl⟩
          · have n2 : (y2 != 6) = false := by rw [bne, e2]; rfl
            cases e3 : (y3 == 1669485411)
            · have n3 : (y3 != 1669485411) = true := by rw [bne, e3]; rfl
              have e : bb = true := by rw [HBB.out]; rw [f1, f2, e1, e2, e3]; simp
              replace e := Lib.hid e
              go_wp2_with (go_at_call 25; refine (HN4.out _ g0).mono ?_; rintro e w1 ⟨rfl, h1⟩; obtain rfl := h1.symm)
              go_meet
              exact ⟨congrArg Value.bool e.out.symm, rfl⟩
            · have n3 : (y3 != 1669485411) = false := by rw [bne, e3]; rfl
              have e : bb = false := by rw [HBB.out]; rw [f1, f2, e1, e2, e3]; simp
              replace e := Lib.hid e
              go_wp2_with (go_at_call 25; refine (HN4.out _ g0).mono ?_; rintro e w1 ⟨rfl, h1⟩; obtain rfl := h1.symm)
              go_meet
              exact ⟨congrArg Value.bool e.out.symm, rfl⟩
    · have m1 : (y0 != 1) = false := by rw [bne, f1]; rfl
      cases e1 : (y1 == 1)
      · have n1 : (y1 != 1) = true := by rw [bne, e1]; rfl
        have e : bb = true := by rw [HBB.out]; rw [f1, e1]; simp
        replace e := Lib.hid e
        go_wp2_with (go_at_call 25; refine (HN4.out _ g0).mono ?_; rintro e w1 ⟨rfl, h1⟩; obtain rfl := h1.symm)
        go_meet
        exact ⟨congrArg Value.bool e.out.symm, rfl⟩
      · have n1 : (y1 != 1) = false := by rw [bne, e1]; rfl
        cases e2 : (y2 == 6)
        · have n2 : (y2 != 6) = true := by rw [bne, e2]; rfl
          have e : bb = true := by rw [HBB.out]; rw [f1, e1, e2]; simp
          replace e := Lib.hid e
          go_wp2_with (go_at_call 25; refine (HN4.out _ g0).mono ?_; rintro e w1 ⟨rfl, h1⟩; obtain rfl := h1.symm)
          go_meet
          exact ⟨congrArg Value.bool e.out.symm, rfl⟩
        · have n2 : (y2 != 6) = false := by rw [bne, e2]; rfl
          cases e3 : (y3 == 1669485411)
          · have n3 : (y3 != 1669485411) = true := by rw [bne, e3]; rfl
            have e : bb = true := by rw [HBB.out]; rw [f1, e1, e2, e3]; simp
            replace e := Lib.hid e
            go_wp2_with (go_at_call 25; refine (HN4.out _ g0).mono ?_; rintro e w1 ⟨rfl, h1⟩; obtain rfl := h1.symm)
            go_meet
            exact ⟨congrArg Value.bool e.out.symm, rfl⟩
          · have n3 : (y3 != 1669485411) = false := by rw [bne, e3]; rfl
            have e : bb = false := by rw [HBB.out]; rw [f1, e1, e2, e3]; simp
            replace e := Lib.hid e
            go_wp2_with (go_at_call 25; refine (HN4.out _ g0).mono ?_; rintro e w1 ⟨rfl, h1⟩; obtain rfl := h1.symm)
            go_meet
            exact ⟨congrArg Value.bool e.out.symm, rfl⟩
  obtain ⟨rfl, hw⟩ := hcut
  obtain rfl := hw.symm
  clear hw
  rw [HBH.out]
  clear HBB HBH
  obtain ⟨a5, c5, H5, z1, z2, z3, hrun⟩ := hb.run_cut (lo := 240) (hi := xs.length) (by omega) (Nat.le_refl _)
  rw [cutL_rest] at H5
  have r5 : ∀ w', (Instr.sliceAt 22 (.slice (some ⟨bk, off, none⟩) n c) (some (.int .i64 240)) none none).run Try.prog w' = .ok (.slice a5 (xs.length - 240) c5) w' := hrun rfl .i64
  have hod : (xs.drop 240).length ≤ 140737488355328 := by rw [List.length_drop]; omega
  have HOS := Lib.hid H5
  have HF0 := Lib.hid (fun w' (g : Grew w w') => find_c 0 300 false (by omega) (by omega) hod (H5.grew g))
  have HF1 := Lib.hid (fun w' (g : Grew w w') => find_c 53 1 false (by omega) (by omega) hod (H5.grew g))
  rw [fndV_form] at HF0
  clear z1 z2 z3 hrun H5
  rw [hf] at HF0
  rw [show fndV (xs.drop 240) 53 1 false = (d, true, true) by unfold fndV; rw [hd]] at HF1
  clear hf hd
  clear HN4 r4 hl4 hn HAT hat ha
  generalize xs.drop 240 = os at *
  generalize xs.length - 240 = m at *
  go_wp2_with fail
  refine (HF0.out _ g0).mono ?_
  rintro e w1 ⟨u0, rfl, -, h1⟩
  obtain rfl := h1.symm
  go_wp2_with fail
  refine (HF1.out _ g0).mono ?_
  rintro e w1 ⟨u1, rfl, hb1, h1⟩
  obtain rfl := h1.symm
  obtain ⟨at', ct, rfl, _, hta⟩ := hb1.shape
  obtain ⟨tb, tof, rfl, htat⟩ := hta (by rintro rfl; simp at hd1)
  have t0 := htat 0 (by rw [hd1]; omega)
  rw [Nat.add_zero] at t0
  clear htat hta hb1
  rw [hd1]
  clear hd1
  generalize d.getD 0 0 = ty at *
  have y0 := hR.cell 0
  have y1 := hR.cell 1
  have y2 := hR.cell 2
  have y3 := hR.cell 3
  have y4 := hR.cell 4
  have y5 := hR.cell 5
  have y6 := hR.cell 6
  have y7 := hR.cell 7
  have y8 := hR.cell 8
  have y9 := hR.cell 9
  have y10 := hR.cell 10
  have y11 := hR.cell 11
  have f0 := hR.free 0
  have f1 := hR.free 1
  have f2 := hR.free 2
  have f3 := hR.free 3
  have f4 := hR.free 4
  have f5 := hR.free 5
  have f6 := hR.free 6
  have f7 := hR.free 7
  have f8 := hR.free 8
  have f9 := hR.free 9
  have f10 := hR.free 10
  have f11 := hR.free 11
  go_wp2_with fail
  have E := ((((((((((((hR.set (o := 0) (.int .i64 0)).set (o := 1) (.int .u32 0)).set (o := 2) (.int .u32 0)).set (o := 3) (.int .u32 0)).set (o := 4) (.slice none 0 0)).set (o := 5) (.int .i64 0)).set (o := 6) (.int .u32 0)).set (o := 7) (.int .u32 0)).set (o := 8) (.int .u32 0)).set (o := 9) (.int .u32 0)).set (o := 10) (.int .u32 0)).set (o := 11) (.int .u32 0))
  have GE := ((((((((((((g0.setCell (b := R) (o := 0) (by omega) (.int .i64 0)).setCell (b := R) (o := 1) (by omega) (.int .u32 0)).setCell (b := R) (o := 2) (by omega) (.int .u32 0)).setCell (b := R) (o := 3) (by omega) (.int .u32 0)).setCell (b := R) (o := 4) (by omega) (.slice none 0 0)).setCell (b := R) (o := 5) (by omega) (.int .i64 0)).setCell (b := R) (o := 6) (by omega) (.int .u32 0)).setCell (b := R) (o := 7) (by omega) (.int .u32 0)).setCell (b := R) (o := 8) (by omega) (.int .u32 0)).setCell (b := R) (o := 9) (by omega) (.int .u32 0)).setCell (b := R) (o := 10) (by omega) (.int .u32 0)).setCell (b := R) (o := 11) (by omega) (.int .u32 0))
  have z0 := E.cell 0
  have z1 := E.cell 1
  have z2 := E.cell 2
  have z3 := E.cell 3
  have z4 := E.cell 4
  have z5 := E.cell 5
  have z6 := E.cell 6
  have z7 := E.cell 7
  have z8 := E.cell 8
  have z9 := E.cell 9
  have z10 := E.cell 10
  have z11 := E.cell 11
  exact bodyPost_ret (v := .tuple #[.agg #[.int .i64 0, .int .u32 0, .int .u32 0, .int .u32 0, .slice none 0 0, .int .i64 0, .int .u32 0, .int .u32 0, .int .u32 0, .int .u32 0, .int .u32 0, .int .u32 0], .int .i64 161]) (by simp [results, Try.results12, go_sem, z0, z1, z2, z3, z4, z5, z6, z7, z8, z9, z10, z11]) rfl ⟨rfl, GE⟩
set_option maxHeartbeats 4000000 in
theorem refGetD_high (a : Option Addr) (n c : Nat) (xs : List Int) (hs : 240 ≤ xs.length) (hlx : xs.length ≤ 140737488355328) {w : World} (hb : Buf w (.slice a n c) xs) (hh : hdOk xs = true) (hf : (optV (xs.drop 240)).2 = true) (d : List Int) (hd : fstV (optV (xs.drop 240)).1 53 1 false = some d) (hd1 : d.length = 1) (ht : ¬ d.getD 0 0 < 1) (ht8 : 8 < d.getD 0 0) :
    Calls Try.prog 12 #[.slice a n c] w fun e w' => e = .returned (.tuple #[.agg #[.int .i64 0, .int .u32 0, .int .u32 0, .int .u32 0, .slice none 0 0, .int .i64 0, .int .u32 0, .int .u32 0, .int .u32 0, .int .u32 0, .int .u32 0, .int .u32 0], .int .i64 161]) ∧ Grew w w' := by
  obtain ⟨bb, hbb⟩ : ∃ bb, bb = !hdOk xs := ⟨_, rfl⟩
  have HBB := Lib.hid hbb
  have HBH := Lib.hid (show bb = false by rw [hbb, hh]; rfl)
  clear hbb hh
  have hn := hb.lenEq.1
  have hbk : xs ≠ [] := by rintro rfl; simp at hs
  obtain ⟨a', c', ea, _, ha⟩ := hb.shape
  obtain ⟨bk, off, rfl, hat⟩ := ha hbk
  simp only [Value.slice.injEq] at ea
  obtain ⟨rfl, -, -⟩ := ea
  have hz0 := hb.ok.getD 0
  have hz1 := hb.ok.getD 1
  have hz2 := hb.ok.getD 2
  have HAT := Lib.hid (fun w' (g : Grew w w') => hat.grew g)
  obtain ⟨a4, c4, H4, z1, hrun, z3, z4⟩ := hb.run_cut (lo := 236) (hi := 240) (by omega) (by omega)
  have r4 : ∀ w', (Instr.sliceAt 22 (.slice (some ⟨bk, off, none⟩) n c) (some (.int .i64 236)) (some (.int .i64 240)) none).run Try.prog w' = .ok (.slice a4 4 c4) w' := hrun .i64 .i64
  have hl4 : (cutL xs 236 240).length = 4 := by rw [cutL_length (by omega) (by omega)]
  have HN4 := Lib.hid (fun w' (g : Grew w w') => refNumber_c hl4 (H4.grew g))
  clear z1 z3 z4 hrun
  have k240 : ¬ ((n : Int) < 240) := by omega
  go_enter Try.func12, Try.ntmps12
  go_upto_region 1 with fail
  have hR : Blk (w.alloc (.cells #[.int .i64 0, .int .u32 0, .int .u32 0, .int .u32 0, .slice none 0 0, .int .i64 0, .int .u32 0, .int .u32 0, .int .u32 0, .int .u32 0, .int .u32 0, .int .u32 0] 26)) w.heap.size #[.int .i64 0, .int .u32 0, .int .u32 0, .int .u32 0, .slice none 0 0, .int .i64 0, .int .u32 0, .int .u32 0, .int .u32 0, .int .u32 0, .int .u32 0, .int .u32 0] 26 := Blk.new _ _ _ _ rfl
  have g0 : Grew w (w.alloc (.cells #[.int .i64 0, .int .u32 0, .int .u32 0, .int .u32 0, .slice none 0 0, .int .i64 0, .int .u32 0, .int .u32 0, .int .u32 0, .int .u32 0, .int .u32 0, .int .u32 0] 26)) := (Grew.refl _).alloc _
  generalize (w.alloc (.cells #[.int .i64 0, .int .u32 0, .int .u32 0, .int .u32 0, .slice none 0 0, .int .i64 0, .int .u32 0, .int .u32 0, .int .u32 0, .int .u32 0, .int .u32 0, .int .u32 0] 26)) = w0 at *
  generalize hlR : w.heap.size = R at *
  go_upto_region 3 with fail
  go_cut [43] (fun v wx => v = .bool bb ∧ wx = w0)
  case first =>
    have x0 := HAT.out _ g0 0 (by omega)
    rw [Nat.add_zero] at x0
    have x1 := HAT.out _ g0 1 (by omega)
    have x2 := HAT.out _ g0 2 (by omega)
    have l0 : (0 : Int) < (n : Nat) := by omega
    have l1 : (1 : Int) < (n : Nat) := by omega
    have l2 : (2 : Int) < (n : Nat) := by omega
    obtain ⟨b0, hb0⟩ : ∃ b0, b0 = (xs.getD 0 0 == 1 || xs.getD 0 0 == 2) := ⟨_, rfl⟩
    clear hb HAT
    have HBB' := HBB
    unfold hdOk at HBB'
    replace HBB := HBB'
    clear HBB' hb0 b0
    generalize xs.getD 0 0 = y0 at *
    generalize xs.getD 1 0 = y1 at *
    generalize xs.getD 2 0 = y2 at *
    generalize getV (cutL xs 236 240) true = y3 at *
    clear hn
    cases f1 : (y0 == 1)
    · have m1 : (y0 != 1) = true := by rw [bne, f1]; rfl
      cases f2 : (y0 == 2)
      · have m2 : (y0 != 2) = true := by rw [bne, f2]; rfl
        have e : bb = true := by rw [HBB.out, f1, f2]; rfl
        replace e := Lib.hid e
        go_wp2_with fail
        go_meet
        exact ⟨congrArg Value.bool e.out.symm, rfl⟩
      · have m2 : (y0 != 2) = false := by rw [bne, f2]; rfl
        cases e1 : (y1 == 1)
        · have n1 : (y1 != 1) = true := by rw [bne, e1]; rfl
          have e : bb = true := by rw [HBB.out]; rw [f1, f2, e1]; simp
          replace e := Lib.hid e
          go_wp2_with (go_at_call 25; refine (HN4.out _ g0).mono ?_; rintro e w1 ⟨rfl, h1⟩; obtain rfl := h1.symm)
          go_meet
          exact ⟨congrArg Value.bool e.out.symm, rfl⟩
        · have n1 : (y1 != 1) = false := by rw [bne, e1]; rfl
          cases e2 : (y2 == 6)
          · have n2 : (y2 != 6) = true := by rw [bne, e2]; rfl
            have e : bb = true := by rw [HBB.out]; rw [f1, f2, e1, e2]; simp
            replace e := Lib.hid e
            go_wp2_with (go_at_call 25; refine (HN4.out _ g0).mono ?_; rintro e w1 ⟨rfl, h1⟩; obtain rfl := h1.symm)
            go_meet
            exact ⟨congrArg Value.bool e.out.symm, rfl⟩
          · have n2 : (y2 != 6) = false := by rw [bne, e2]; rfl
            cases e3 : (y3 == 1669485411)
            · have n3 : (y3 != 1669485411) = true := by rw [bne, e3]; rfl
              have e : bb = true := by rw [HBB.out]; rw [f1, f2, e1, e2, e3]; simp
              replace e := Lib.hid e
              go_wp2_with (go_at_call 25; refine (HN4.out _ g0).mono ?_; rintro e w1 ⟨rfl, h1⟩; obtain rfl := h1.symm)
              go_meet
              exact ⟨congrArg Value.bool e.out.symm, rfl⟩
            · have n3 : (y3 != 1669485411) = false := by rw [bne, e3]; rfl
              have e : bb = false := by rw [HBB.out]; rw [f1, f2, e1, e2, e3]; simp
              replace e := Lib.hid e
              go_wp2_with (go_at_call 25; refine (HN4.out _ g0).mono ?_; rintro e w1 ⟨rfl, h1⟩; obtain rfl := h1.symm)
              go_meet
              exact ⟨congrArg Value.bool e.out.symm, rfl⟩
    · have m1 : (y0 != 1) = false := by rw [bne, f1]; rfl
      cases e1 : (y1 == 1)
      · have n1 : (y1 != 1) = true := by rw [bne, e1]; rfl
        have e : bb = true := by rw [HBB.out]; rw [f1, e1]; simp
        replace e := Lib.hid e
        go_wp2_with (go_at_call 25; refine (HN4.out _ g0).mono ?_; rintro e w1 ⟨rfl, h1⟩; obtain rfl := h1.symm)
        go_meet
        exact ⟨congrArg Value.bool e.out.symm, rfl⟩
      · have n1 : (y1 != 1) = false := by rw [bne, e1]; rfl
        cases e2 : (y2 == 6)
        · have n2 : (y2 != 6) = true := by rw [bne, e2]; rfl
          have e : bb = true := by rw [HBB.out]; rw [f1, e1, e2]; simp
          replace e := Lib.hid e
          go_wp2_with (go_at_call 25; refine (HN4.out _ g0).mono ?_; rintro e w1 ⟨rfl, h1⟩; obtain rfl := h1.symm)
          go_meet
          exact ⟨congrArg Value.bool e.out.symm, rfl⟩
        · have n2 : (y2 != 6) = false := by rw [bne, e2]; rfl
          cases e3 : (y3 == 1669485411)
          · have n3 : (y3 != 1669485411) = true := by rw [bne, e3]; rfl
            have e : bb = true := by rw [HBB.out]; rw [f1, e1, e2, e3]; simp
            replace e := Lib.hid e
            go_wp2_with (go_at_call 25; refine (HN4.out _ g0).mono ?_; rintro e w1 ⟨rfl, h1⟩; obtain rfl := h1.symm)
            go_meet
            exact ⟨congrArg Value.bool e.out.symm, rfl⟩
          · have n3 : (y3 != 1669485411) = false := by rw [bne, e3]; rfl
            have e : bb = false := by rw [HBB.out]; rw [f1, e1, e2, e3]; simp
            replace e := Lib.hid e
            go_wp2_with (go_at_call 25; refine (HN4.out _ g0).mono ?_; rintro e w1 ⟨rfl, h1⟩; obtain rfl := h1.symm)
            go_meet
            exact ⟨congrArg Value.bool e.out.symm, rfl⟩
  obtain ⟨rfl, hw⟩ := hcut
  obtain rfl := hw.symm
  clear hw
  rw [HBH.out]
  clear HBB HBH
  obtain ⟨a5, c5, H5, z1, z2, z3, hrun⟩ := hb.run_cut (lo := 240) (hi := xs.length) (by omega) (Nat.le_refl _)
  rw [cutL_rest] at H5
  have r5 : ∀ w', (Instr.sliceAt 22 (.slice (some ⟨bk, off, none⟩) n c) (some (.int .i64 240)) none none).run Try.prog w' = .ok (.slice a5 (xs.length - 240) c5) w' := hrun rfl .i64
  have hod : (xs.drop 240).length ≤ 140737488355328 := by rw [List.length_drop]; omega
  have HOS := Lib.hid H5
  have HF0 := Lib.hid (fun w' (g : Grew w w') => find_c 0 300 false (by omega) (by omega) hod (H5.grew g))
  have HF1 := Lib.hid (fun w' (g : Grew w w') => find_c 53 1 false (by omega) (by omega) hod (H5.grew g))
  rw [fndV_form] at HF0
  clear z1 z2 z3 hrun H5
  rw [hf] at HF0
  rw [show fndV (xs.drop 240) 53 1 false = (d, true, true) by unfold fndV; rw [hd]] at HF1
  clear hf hd
  clear HN4 r4 hl4 hn HAT hat ha
  generalize xs.drop 240 = os at *
  generalize xs.length - 240 = m at *
  go_wp2_with fail
  refine (HF0.out _ g0).mono ?_
  rintro e w1 ⟨u0, rfl, -, h1⟩
  obtain rfl := h1.symm
  go_wp2_with fail
  refine (HF1.out _ g0).mono ?_
  rintro e w1 ⟨u1, rfl, hb1, h1⟩
  obtain rfl := h1.symm
  obtain ⟨at', ct, rfl, _, hta⟩ := hb1.shape
  obtain ⟨tb, tof, rfl, htat⟩ := hta (by rintro rfl; simp at hd1)
  have t0 := htat 0 (by rw [hd1]; omega)
  rw [Nat.add_zero] at t0
  clear htat hta hb1
  rw [hd1]
  clear hd1
  generalize d.getD 0 0 = ty at *
  have y0 := hR.cell 0
  have y1 := hR.cell 1
  have y2 := hR.cell 2
  have y3 := hR.cell 3
  have y4 := hR.cell 4
  have y5 := hR.cell 5
  have y6 := hR.cell 6
  have y7 := hR.cell 7
  have y8 := hR.cell 8
  have y9 := hR.cell 9
  have y10 := hR.cell 10
  have y11 := hR.cell 11
  have f0 := hR.free 0
  have f1 := hR.free 1
  have f2 := hR.free 2
  have f3 := hR.free 3
  have f4 := hR.free 4
  have f5 := hR.free 5
  have f6 := hR.free 6
  have f7 := hR.free 7
  have f8 := hR.free 8
  have f9 := hR.free 9
  have f10 := hR.free 10
  have f11 := hR.free 11
  go_wp2_with fail
  have E := ((((((((((((hR.set (o := 0) (.int .i64 0)).set (o := 1) (.int .u32 0)).set (o := 2) (.int .u32 0)).set (o := 3) (.int .u32 0)).set (o := 4) (.slice none 0 0)).set (o := 5) (.int .i64 0)).set (o := 6) (.int .u32 0)).set (o := 7) (.int .u32 0)).set (o := 8) (.int .u32 0)).set (o := 9) (.int .u32 0)).set (o := 10) (.int .u32 0)).set (o := 11) (.int .u32 0))
  have GE := ((((((((((((g0.setCell (b := R) (o := 0) (by omega) (.int .i64 0)).setCell (b := R) (o := 1) (by omega) (.int .u32 0)).setCell (b := R) (o := 2) (by omega) (.int .u32 0)).setCell (b := R) (o := 3) (by omega) (.int .u32 0)).setCell (b := R) (o := 4) (by omega) (.slice none 0 0)).setCell (b := R) (o := 5) (by omega) (.int .i64 0)).setCell (b := R) (o := 6) (by omega) (.int .u32 0)).setCell (b := R) (o := 7) (by omega) (.int .u32 0)).setCell (b := R) (o := 8) (by omega) (.int .u32 0)).setCell (b := R) (o := 9) (by omega) (.int .u32 0)).setCell (b := R) (o := 10) (by omega) (.int .u32 0)).setCell (b := R) (o := 11) (by omega) (.int .u32 0))
  have z0 := E.cell 0
  have z1 := E.cell 1
  have z2 := E.cell 2
  have z3 := E.cell 3
  have z4 := E.cell 4
  have z5 := E.cell 5
  have z6 := E.cell 6
  have z7 := E.cell 7
  have z8 := E.cell 8
  have z9 := E.cell 9
  have z10 := E.cell 10
  have z11 := E.cell 11
  exact bodyPost_ret (v := .tuple #[.agg #[.int .i64 0, .int .u32 0, .int .u32 0, .int .u32 0, .slice none 0 0, .int .i64 0, .int .u32 0, .int .u32 0, .int .u32 0, .int .u32 0, .int .u32 0, .int .u32 0], .int .i64 161]) (by simp [results, Try.results12, go_sem, z0, z1, z2, z3, z4, z5, z6, z7, z8, z9, z10, z11]) rfl ⟨rfl, GE⟩
theorem dhInfo : (Try.prog.info? 26).map (·.size) = some 12 := by kernel_rfl
/-- What the operations of a region give. -/
def rgDg (W : World) (bk off n c tb tof ct : Nat) (a6 a7 a8 a9 : Option Addr) (c6 c7 c8 c9 : Nat) (y0 q1 q2 q3 ty : Int) (mac : List Int) : (Nat → Value) → Nat → Value → World → Prop
  | _, 0, v, _ => v = .slice (some ⟨bk, off, none⟩) n c
  | _, 1, v, _ => v = .pointer (some ⟨bk, off, none⟩)
  | _, 2, v, _ => v = .int .u8 y0
  | _, 3, v, _ => v = .int .i64 y0
  | _, 4, v, _ => v = .slice (some ⟨bk, off, none⟩) n c
  | _, 5, v, _ => v = .slice a6 4 c6
  | _, 6, v, _ => v = .int .u32 q1
  | _, 7, v, _ => v = .slice (some ⟨bk, off, none⟩) n c
  | _, 8, v, _ => v = .slice a7 4 c7
  | _, 9, v, _ => v = .int .u32 q2
  | _, 10, v, _ => v = .slice (some ⟨bk, off, none⟩) n c
  | _, 11, v, _ => v = .slice a8 4 c8
  | _, 12, v, _ => v = .int .u32 q3
  | _, 13, v, w => ∃ b0, v = .slice (some ⟨b0, 0, none⟩) 0 0 ∧ Buf w (.slice (some ⟨b0, 0, none⟩) 0 0) []
  | _, 14, v, _ => v = .slice (some ⟨bk, off, none⟩) n c
  | _, 15, v, _ => v = .slice a9 6 c9
  | _, 16, v, w => ∃ a c, v = .slice a 6 c ∧ Buf w (.slice a 6 c) mac
  | _, 17, v, _ => v = .slice (some ⟨tb, tof, none⟩) 1 ct
  | _, 18, v, _ => v = .pointer (some ⟨tb, tof, none⟩)
  | _, 19, v, _ => v = .int .u8 ty
  | _, 20, v, _ => v = .int .i64 ty
  | vs, 21, v, _ => v = .agg #[.int .i64 y0, .int .u32 q1, .int .u32 q2, .int .u32 q3, vs 16, .int .i64 ty, .int .u32 0, .int .u32 0, .int .u32 0, .int .u32 0, .int .u32 0, .int .u32 0]
  | _, 22, v, w => ∃ b0, v = .pointer (some ⟨b0, 0, none⟩) ∧ W.heap.size ≤ b0 ∧ Blk w b0 #[.int .i64 0, .int .u32 0, .int .u32 0, .int .u32 0, .slice none 0 0, .int .i64 0, .int .u32 0, .int .u32 0, .int .u32 0, .int .u32 0, .int .u32 0, .int .u32 0] 26
  | _, _, _, _ => True
theorem rgDg_grew {W : World} {bk off n c tb tof ct : Nat} {a6 a7 a8 a9 : Option Addr} {c6 c7 c8 c9 : Nat} {y0 q1 q2 q3 ty : Int} {mac : List Int} : ∀ vs j v w w', Grew w w' → rgDg W bk off n c tb tof ct a6 a7 a8 a9 c6 c7 c8 c9 y0 q1 q2 q3 ty mac vs j v w → rgDg W bk off n c tb tof ct a6 a7 a8 a9 c6 c7 c8 c9 y0 q1 q2 q3 ty mac vs j v w'
  | _, 0, _, _, _, _, h => h
  | _, 1, _, _, _, _, h => h
  | _, 2, _, _, _, _, h => h
  | _, 3, _, _, _, _, h => h
  | _, 4, _, _, _, _, h => h
  | _, 5, _, _, _, _, h => h
  | _, 6, _, _, _, _, h => h
  | _, 7, _, _, _, _, h => h
  | _, 8, _, _, _, _, h => h
  | _, 9, _, _, _, _, h => h
  | _, 10, _, _, _, _, h => h
  | _, 11, _, _, _, _, h => h
  | _, 12, _, _, _, _, h => h
  | _, 13, _, _, _, g, ⟨b0, e, h0⟩ => ⟨b0, e, h0.grew g⟩
  | _, 14, _, _, _, _, h => h
  | _, 15, _, _, _, _, h => h
  | _, 16, _, _, _, g, ⟨b0, b1, e, h0⟩ => ⟨b0, b1, e, h0.grew g⟩
  | _, 17, _, _, _, _, h => h
  | _, 18, _, _, _, _, h => h
  | _, 19, _, _, _, _, h => h
  | _, 20, _, _, _, _, h => h
  | _, 21, _, _, _, _, h => h
  | _, 22, _, _, _, g, ⟨b0, e, h0, h1⟩ => ⟨b0, e, h0, h1.grew g⟩
  | _, _ + 23, _, _, _, _, _ => True.intro
theorem rgDg_lt {W : World} {bk off n c tb tof ct : Nat} {a6 a7 a8 a9 : Option Addr} {c6 c7 c8 c9 : Nat} {y0 q1 q2 q3 ty : Int} {mac : List Int} : ∀ vs j v w, ([22] : List Nat).contains j = true → rgDg W bk off n c tb tof ct a6 a7 a8 a9 c6 c7 c8 c9 y0 q1 q2 q3 ty mac vs j v w → ∀ g, leadsTo v = some g → g < w.heap.size
  | _, 0, _, _, hc, _ => by simp at hc
  | _, 1, _, _, hc, _ => by simp at hc
  | _, 2, _, _, hc, _ => by simp at hc
  | _, 3, _, _, hc, _ => by simp at hc
  | _, 4, _, _, hc, _ => by simp at hc
  | _, 5, _, _, hc, _ => by simp at hc
  | _, 6, _, _, hc, _ => by simp at hc
  | _, 7, _, _, hc, _ => by simp at hc
  | _, 8, _, _, hc, _ => by simp at hc
  | _, 9, _, _, hc, _ => by simp at hc
  | _, 10, _, _, hc, _ => by simp at hc
  | _, 11, _, _, hc, _ => by simp at hc
  | _, 12, _, _, hc, _ => by simp at hc
  | _, 13, _, _, hc, _ => by simp at hc
  | _, 14, _, _, hc, _ => by simp at hc
  | _, 15, _, _, hc, _ => by simp at hc
  | _, 16, _, _, hc, _ => by simp at hc
  | _, 17, _, _, hc, _ => by simp at hc
  | _, 18, _, _, hc, _ => by simp at hc
  | _, 19, _, _, hc, _ => by simp at hc
  | _, 20, _, _, hc, _ => by simp at hc
  | _, 21, _, _, hc, _ => by simp at hc
  | _, 22, _, w, _, ⟨b0, e, h0, h1⟩ => by subst e; intro g hg; simp only [leadsTo, Option.some.injEq] at hg; subst hg; exact h1.lt
  | _, _ + 23, _, _, hc, _ => by simp at hc
theorem rgDg_loc {W : World} {bk off n c tb tof ct : Nat} {a6 a7 a8 a9 : Option Addr} {c6 c7 c8 c9 : Nat} {y0 q1 q2 q3 ty : Int} {mac : List Int} : ∀ (vs vs' : Nat → Value) j v w, (∀ k ∈ ([[], [], [], [], [], [], [], [], [], [], [], [], [], [], [], [], [], [], [], [], [], [16], []] : List (List Nat)).getD j [], vs k = vs' k) → rgDg W bk off n c tb tof ct a6 a7 a8 a9 c6 c7 c8 c9 y0 q1 q2 q3 ty mac vs j v w → rgDg W bk off n c tb tof ct a6 a7 a8 a9 c6 c7 c8 c9 y0 q1 q2 q3 ty mac vs' j v w
  | _, _, 0, _, _, _, h => h
  | _, _, 1, _, _, _, h => h
  | _, _, 2, _, _, _, h => h
  | _, _, 3, _, _, _, h => h
  | _, _, 4, _, _, _, h => h
  | _, _, 5, _, _, _, h => h
  | _, _, 6, _, _, _, h => h
  | _, _, 7, _, _, _, h => h
  | _, _, 8, _, _, _, h => h
  | _, _, 9, _, _, _, h => h
  | _, _, 10, _, _, _, h => h
  | _, _, 11, _, _, _, h => h
  | _, _, 12, _, _, _, h => h
  | _, _, 13, _, _, _, h => h
  | _, _, 14, _, _, _, h => h
  | _, _, 15, _, _, _, h => h
  | _, _, 16, _, _, _, h => h
  | _, _, 17, _, _, _, h => h
  | _, _, 18, _, _, _, h => h
  | _, _, 19, _, _, _, h => h
  | _, _, 20, _, _, _, h => h
  | vs, vs', 21, v, w, hk, h => by show _ = _; rw [← hk 16 (by decide)]; exact h
  | _, _, 22, _, _, _, h => h
  | _, _, _ + 23, _, _, _, _ => True.intro
set_option maxHeartbeats 8000000 in
theorem refGetD_yes (a : Option Addr) (n c : Nat) (xs : List Int) (hs : 240 ≤ xs.length) (hlx : xs.length ≤ 140737488355328) {w : World} (hb : Buf w (.slice a n c) xs) (hh : hdOk xs = true) (hf : (optV (xs.drop 240)).2 = true) (d : List Int) (hd : fstV (optV (xs.drop 240)).1 53 1 false = some d) (hd1 : d.length = 1) (ht : ¬ d.getD 0 0 < 1) (ht8 : ¬ 8 < d.getD 0 0) :
    Calls Try.prog 12 #[.slice a n c] w fun e w' => ∃ u, e = .returned (.tuple #[u, .int .i64 0]) ∧ Dh w' u (dhOf xs) ∧ Grew w w' := by
  obtain ⟨bb, hbb⟩ : ∃ bb, bb = !hdOk xs := ⟨_, rfl⟩
  have HBB := Lib.hid hbb
  have HBH := Lib.hid (show bb = false by rw [hbb, hh]; rfl)
  clear hbb hh
  have hn := hb.lenEq.1
  have hbk : xs ≠ [] := by rintro rfl; simp at hs
  obtain ⟨a', c', ea, _, ha⟩ := hb.shape
  obtain ⟨bk, off, rfl, hat⟩ := ha hbk
  simp only [Value.slice.injEq] at ea
  obtain ⟨rfl, -, -⟩ := ea
  have hz0 := hb.ok.getD 0
  have hz1 := hb.ok.getD 1
  have hz2 := hb.ok.getD 2
  have HAT := Lib.hid (fun w' (g : Grew w w') => hat.grew g)
  obtain ⟨a4, c4, H4, z1, hrun, z3, z4⟩ := hb.run_cut (lo := 236) (hi := 240) (by omega) (by omega)
  have r4 : ∀ w', (Instr.sliceAt 22 (.slice (some ⟨bk, off, none⟩) n c) (some (.int .i64 236)) (some (.int .i64 240)) none).run Try.prog w' = .ok (.slice a4 4 c4) w' := hrun .i64 .i64
  have hl4 : (cutL xs 236 240).length = 4 := by rw [cutL_length (by omega) (by omega)]
  have HN4 := Lib.hid (fun w' (g : Grew w w') => refNumber_c hl4 (H4.grew g))
  clear z1 z3 z4 hrun
  have k240 : ¬ ((n : Int) < 240) := by omega
  go_enter Try.func12, Try.ntmps12
  go_upto_region 1 with fail
  have hR : Blk (w.alloc (.cells #[.int .i64 0, .int .u32 0, .int .u32 0, .int .u32 0, .slice none 0 0, .int .i64 0, .int .u32 0, .int .u32 0, .int .u32 0, .int .u32 0, .int .u32 0, .int .u32 0] 26)) w.heap.size #[.int .i64 0, .int .u32 0, .int .u32 0, .int .u32 0, .slice none 0 0, .int .i64 0, .int .u32 0, .int .u32 0, .int .u32 0, .int .u32 0, .int .u32 0, .int .u32 0] 26 := Blk.new _ _ _ _ rfl
  have g0 : Grew w (w.alloc (.cells #[.int .i64 0, .int .u32 0, .int .u32 0, .int .u32 0, .slice none 0 0, .int .i64 0, .int .u32 0, .int .u32 0, .int .u32 0, .int .u32 0, .int .u32 0, .int .u32 0] 26)) := (Grew.refl _).alloc _
  generalize (w.alloc (.cells #[.int .i64 0, .int .u32 0, .int .u32 0, .int .u32 0, .slice none 0 0, .int .i64 0, .int .u32 0, .int .u32 0, .int .u32 0, .int .u32 0, .int .u32 0, .int .u32 0] 26)) = w0 at *
  generalize hlR : w.heap.size = R at *
  go_upto_region 3 with fail
  go_cut [43] (fun v wx => v = .bool bb ∧ wx = w0)
  case first =>
    have x0 := HAT.out _ g0 0 (by omega)
    rw [Nat.add_zero] at x0
    have x1 := HAT.out _ g0 1 (by omega)
    have x2 := HAT.out _ g0 2 (by omega)
    have l0 : (0 : Int) < (n : Nat) := by omega
    have l1 : (1 : Int) < (n : Nat) := by omega
    have l2 : (2 : Int) < (n : Nat) := by omega
    obtain ⟨b0, hb0⟩ : ∃ b0, b0 = (xs.getD 0 0 == 1 || xs.getD 0 0 == 2) := ⟨_, rfl⟩
    clear hb HAT
    have HBB' := HBB
    unfold hdOk at HBB'
    replace HBB := HBB'
    clear HBB' hb0 b0
    generalize xs.getD 0 0 = y0 at *
    generalize xs.getD 1 0 = y1 at *
    generalize xs.getD 2 0 = y2 at *
    generalize getV (cutL xs 236 240) true = y3 at *
    clear hn
    cases f1 : (y0 == 1)
    · have m1 : (y0 != 1) = true := by rw [bne, f1]; rfl
      cases f2 : (y0 == 2)
      · have m2 : (y0 != 2) = true := by rw [bne, f2]; rfl
        have e : bb = true := by rw [HBB.out, f1, f2]; rfl
        replace e := Lib.hid e
        go_wp2_with fail
        go_meet
        exact ⟨congrArg Value.bool e.out.symm, rfl⟩
      · have m2 : (y0 != 2) = false := by rw [bne, f2]; rfl
        cases e1 : (y1 == 1)
        · have n1 : (y1 != 1) = true := by rw [bne, e1]; rfl
          have e : bb = true := by rw [HBB.out]; rw [f1, f2, e1]; simp
          replace e := Lib.hid e
          go_wp2_with (go_at_call 25; refine (HN4.out _ g0).mono ?_; rintro e w1 ⟨rfl, h1⟩; obtain rfl := h1.symm)
          go_meet
          exact ⟨congrArg Value.bool e.out.symm, rfl⟩
        · have n1 : (y1 != 1) = false := by rw [bne, e1]; rfl
          cases e2 : (y2 == 6)
          · have n2 : (y2 != 6) = true := by rw [bne, e2]; rfl
            have e : bb = true := by rw [HBB.out]; rw [f1, f2, e1, e2]; simp
            replace e := Lib.hid e
            go_wp2_with (go_at_call 25; refine (HN4.out _ g0).mono ?_; rintro e w1 ⟨rfl, h1⟩; obtain rfl := h1.symm)
            go_meet
            exact ⟨congrArg Value.bool e.out.symm, rfl⟩
          · have n2 : (y2 != 6) = false := by rw [bne, e2]; rfl
            cases e3 : (y3 == 1669485411)
            · have n3 : (y3 != 1669485411) = true := by rw [bne, e3]; rfl
              have e : bb = true := by rw [HBB.out]; rw [f1, f2, e1, e2, e3]; simp
              replace e := Lib.hid e
              go_wp2_with (go_at_call 25; refine (HN4.out _ g0).mono ?_; rintro e w1 ⟨rfl, h1⟩; obtain rfl := h1.symm)
              go_meet
              exact ⟨congrArg Value.bool e.out.symm, rfl⟩
            · have n3 : (y3 != 1669485411) = false := by rw [bne, e3]; rfl
              have e : bb = false := by rw [HBB.out]; rw [f1, f2, e1, e2, e3]; simp
              replace e := Lib.hid e
              go_wp2_with (go_at_call 25; refine (HN4.out _ g0).mono ?_; rintro e w1 ⟨rfl, h1⟩; obtain rfl := h1.symm)
              go_meet
              exact ⟨congrArg Value.bool e.out.symm, rfl⟩
    · have m1 : (y0 != 1) = false := by rw [bne, f1]; rfl
      cases e1 : (y1 == 1)
      · have n1 : (y1 != 1) = true := by rw [bne, e1]; rfl
        have e : bb = true := by rw [HBB.out]; rw [f1, e1]; simp
        replace e := Lib.hid e
        go_wp2_with (go_at_call 25; refine (HN4.out _ g0).mono ?_; rintro e w1 ⟨rfl, h1⟩; obtain rfl := h1.symm)
        go_meet
        exact ⟨congrArg Value.bool e.out.symm, rfl⟩
      · have n1 : (y1 != 1) = false := by rw [bne, e1]; rfl
        cases e2 : (y2 == 6)
        · have n2 : (y2 != 6) = true := by rw [bne, e2]; rfl
          have e : bb = true := by rw [HBB.out]; rw [f1, e1, e2]; simp
          replace e := Lib.hid e
          go_wp2_with (go_at_call 25; refine (HN4.out _ g0).mono ?_; rintro e w1 ⟨rfl, h1⟩; obtain rfl := h1.symm)
          go_meet
          exact ⟨congrArg Value.bool e.out.symm, rfl⟩
        · have n2 : (y2 != 6) = false := by rw [bne, e2]; rfl
          cases e3 : (y3 == 1669485411)
          · have n3 : (y3 != 1669485411) = true := by rw [bne, e3]; rfl
            have e : bb = true := by rw [HBB.out]; rw [f1, e1, e2, e3]; simp
            replace e := Lib.hid e
            go_wp2_with (go_at_call 25; refine (HN4.out _ g0).mono ?_; rintro e w1 ⟨rfl, h1⟩; obtain rfl := h1.symm)
            go_meet
            exact ⟨congrArg Value.bool e.out.symm, rfl⟩
          · have n3 : (y3 != 1669485411) = false := by rw [bne, e3]; rfl
            have e : bb = false := by rw [HBB.out]; rw [f1, e1, e2, e3]; simp
            replace e := Lib.hid e
            go_wp2_with (go_at_call 25; refine (HN4.out _ g0).mono ?_; rintro e w1 ⟨rfl, h1⟩; obtain rfl := h1.symm)
            go_meet
            exact ⟨congrArg Value.bool e.out.symm, rfl⟩
  obtain ⟨rfl, hw⟩ := hcut
  obtain rfl := hw.symm
  clear hw
  rw [HBH.out]
  clear HBB HBH
  obtain ⟨a5, c5, H5, z1, z2, z3, hrun⟩ := hb.run_cut (lo := 240) (hi := xs.length) (by omega) (Nat.le_refl _)
  rw [cutL_rest] at H5
  have r5 : ∀ w', (Instr.sliceAt 22 (.slice (some ⟨bk, off, none⟩) n c) (some (.int .i64 240)) none none).run Try.prog w' = .ok (.slice a5 (xs.length - 240) c5) w' := hrun rfl .i64
  have hod : (xs.drop 240).length ≤ 140737488355328 := by rw [List.length_drop]; omega
  have HOS := Lib.hid H5
  have HF0 := Lib.hid (fun w' (g : Grew w w') => find_c 0 300 false (by omega) (by omega) hod (H5.grew g))
  have HF1 := Lib.hid (fun w' (g : Grew w w') => find_c 53 1 false (by omega) (by omega) hod (H5.grew g))
  rw [fndV_form] at HF0
  clear z1 z2 z3 hrun H5
  have HTY : Hid (typV (xs.drop 240) = d.getD 0 0) := Lib.hid (by unfold typV; rw [hd])
  rw [hf] at HF0
  rw [show fndV (xs.drop 240) 53 1 false = (d, true, true) by unfold fndV; rw [hd]] at HF1
  clear hf hd
  obtain ⟨a6, c6, H6, z1, hrun, z3, z4⟩ := hb.run_cut (lo := 4) (hi := 8) (by omega) (by omega)
  have r6 : ∀ w', (Instr.sliceAt 22 (.slice (some ⟨bk, off, none⟩) n c) (some (.int .i64 4)) (some (.int .i64 8)) none).run Try.prog w' = .ok (.slice a6 4 c6) w' := hrun .i64 .i64
  have hl6 : (cutL xs 4 8).length = 4 := by rw [cutL_length (by omega) (by omega)]
  clear z1 z3 z4 hrun
  obtain ⟨a7, c7, H7, z1, hrun, z3, z4⟩ := hb.run_cut (lo := 12) (hi := 16) (by omega) (by omega)
  have r7 : ∀ w', (Instr.sliceAt 22 (.slice (some ⟨bk, off, none⟩) n c) (some (.int .i64 12)) (some (.int .i64 16)) none).run Try.prog w' = .ok (.slice a7 4 c7) w' := hrun .i64 .i64
  have hl7 : (cutL xs 12 16).length = 4 := by rw [cutL_length (by omega) (by omega)]
  clear z1 z3 z4 hrun
  obtain ⟨a8, c8, H8, z1, hrun, z3, z4⟩ := hb.run_cut (lo := 16) (hi := 20) (by omega) (by omega)
  have r8 : ∀ w', (Instr.sliceAt 22 (.slice (some ⟨bk, off, none⟩) n c) (some (.int .i64 16)) (some (.int .i64 20)) none).run Try.prog w' = .ok (.slice a8 4 c8) w' := hrun .i64 .i64
  have hl8 : (cutL xs 16 20).length = 4 := by rw [cutL_length (by omega) (by omega)]
  clear z1 z3 z4 hrun
  obtain ⟨a9, c9, H9, z1, hrun, z3, z4⟩ := hb.run_cut (lo := 28) (hi := 34) (by omega) (by omega)
  have r9 : ∀ w', (Instr.sliceAt 22 (.slice (some ⟨bk, off, none⟩) n c) (some (.int .i64 28)) (some (.int .i64 34)) none).run Try.prog w' = .ok (.slice a9 6 c9) w' := hrun .i64 .i64
  have hl9 : (cutL xs 28 34).length = 6 := by rw [cutL_length (by omega) (by omega)]
  clear z1 z3 z4 hrun
  have HQ1 := Lib.hid (fun w' (g : Grew w w') => refNumber_c hl6 (H6.grew g))
  have HQ2 := Lib.hid (fun w' (g : Grew w w') => refNumber_c hl7 (H7.grew g))
  have HQ3 := Lib.hid (fun w' (g : Grew w w') => refNumber_c hl8 (H8.grew g))
  have HM0 := Lib.hid H9
  have HML := Lib.hid hl9
  have hlt4 : ∀ {ys : List Int}, AreBytes ys → ys.length = 4 → 0 ≤ getV ys true ∧ getV ys true < 4294967296 := fun hy h4 => by
    have := getG_lt hy true h4 (by omega)
    rwa [show (2 : Int) ^ (8 * 4) = 4294967296 by decide] at this
  have HQB := Lib.hid (And.intro (hlt4 H6.ok hl6) (And.intro (hlt4 H7.ok hl7) (hlt4 H8.ok hl8)))
  have HVv500 := Lib.hid (fun w' (g : Grew w w') => refValue_c 50 false (by omega) hod (HOS.out.grew g))
  have HVv540 := Lib.hid (fun w' (g : Grew w w') => refValue_c 54 false (by omega) hod (HOS.out.grew g))
  have HVv510 := Lib.hid (fun w' (g : Grew w w') => refValue_c 51 false (by omega) hod (HOS.out.grew g))
  have HVv10 := Lib.hid (fun w' (g : Grew w w') => refValue_c 1 false (by omega) hod (HOS.out.grew g))
  have HVv30 := Lib.hid (fun w' (g : Grew w w') => refValue_c 3 true (by omega) hod (HOS.out.grew g))
  have HVv60 := Lib.hid (fun w' (g : Grew w w') => refValue_c 6 true (by omega) hod (HOS.out.grew g))
  have HVB := Lib.hid (And.intro (fourV_lt HOS.out.ok 50 false) (And.intro (fourV_lt HOS.out.ok 54 false) (And.intro (fourV_lt HOS.out.ok 51 false) (And.intro (fourV_lt HOS.out.ok 1 false) (And.intro (fourV_lt HOS.out.ok 3 true) (fourV_lt HOS.out.ok 6 true))))))
  have HF : Hid (dhOf xs = ⟨xs.getD 0 0, getV (cutL xs 4 8) true, getV (cutL xs 12 16) true, getV (cutL xs 16 20) true, cutL xs 28 34, d.getD 0 0, fourV (xs.drop 240) 50 false, fourV (xs.drop 240) 54 false, fourV (xs.drop 240) 51 false, fourV (xs.drop 240) 1 false, fourV (xs.drop 240) 3 true, fourV (xs.drop 240) 6 true⟩) := Lib.hid (by unfold dhOf; rw [HTY.out])
  have HX00 := Lib.hid (fun w' (g : Grew w w') => show w'.cell? ⟨bk, off, none⟩ = some (.int .u8 (xs.getD 0 0)) by have := hat.grew g 0 (by omega); rwa [Nat.add_zero] at this)
  have HL0 := Lib.hid (show (0 : Int) < (n : Nat) by omega)
  have HL0n := Lib.hid (show 0 < n by omega)
  have EW0 := Lib.hid (show IntKind.i64.wrap (xs.getD 0 0) = xs.getD 0 0 from IntWalk.i64_in _ (by omega))
  have HY0 := Lib.hid (show intI (xs.getD 0 0) by unfold intI; omega)
  clear hb ha hat HAT HN4 r4 hl4 H4 hn hz0 hz1 hz2 H6 H7 H8 H9 hl6 hl7 hl8 hl9 hlt4 HTY k240 hs hlx hbk
  generalize cutL xs 28 34 = mac at *
  generalize getV (cutL xs 4 8) true = q1 at *
  generalize getV (cutL xs 12 16) true = q2 at *
  generalize getV (cutL xs 16 20) true = q3 at *
  generalize xs.getD 0 0 = y0 at *
  generalize fourV (xs.drop 240) 50 false = v50 at *
  generalize fourV (xs.drop 240) 54 false = v54 at *
  generalize fourV (xs.drop 240) 51 false = v51 at *
  generalize fourV (xs.drop 240) 1 false = v1 at *
  generalize fourV (xs.drop 240) 3 true = v3 at *
  generalize fourV (xs.drop 240) 6 true = v6 at *
  generalize xs.drop 240 = os at *
  generalize xs.length - 240 = m at *
  go_wp2_with fail
  refine (HF0.out _ g0).mono ?_
  rintro e w1 ⟨u0, rfl, -, h1⟩
  obtain rfl := h1.symm
  go_wp2_with fail
  refine (HF1.out _ g0).mono ?_
  rintro e w1 ⟨u1, rfl, hb1, h1⟩
  obtain rfl := h1.symm
  obtain ⟨at', ct, rfl, _, hta⟩ := hb1.shape
  obtain ⟨tb, tof, rfl, htat⟩ := hta (by rintro rfl; simp at hd1)
  have hdz := hb1.ok.getD 0
  have HT00 := Lib.hid (fun w' (g : Grew w0 w') => show w'.cell? ⟨tb, tof, none⟩ = some (.int .u8 (d.getD 0 0)) by have := htat.grew g 0 (by omega); rwa [Nat.add_zero] at this)
  have t0 := HT00.out _ (Grew.refl _)
  have EWt := Lib.hid (show IntKind.i64.wrap (d.getD 0 0) = d.getD 0 0 from IntWalk.i64_in _ (by omega))
  have HTI := Lib.hid (show intI (d.getD 0 0) by unfold intI; omega)
  rw [hd1]
  clear htat hta hb1 hd1 hdz
  generalize d.getD 0 0 = ty at *
  go_upto_region 10 with fail
  have HT0 := HT00
  clear t0 HT00 HF0 HF1 ht ht8
  have HQ1 := Lib.hid (fun w' (g : Grew w0 w') => HQ1.out w' (g0.trans g))
  have HQ2 := Lib.hid (fun w' (g : Grew w0 w') => HQ2.out w' (g0.trans g))
  have HQ3 := Lib.hid (fun w' (g : Grew w0 w') => HQ3.out w' (g0.trans g))
  have HX0 := Lib.hid (fun w' (g : Grew w0 w') => HX00.out w' (g0.trans g))
  clear HX00
  have HVv50 := Lib.hid (fun w' (g : Grew w0 w') => HVv500.out w' (g0.trans g))
  clear HVv500
  have HVv54 := Lib.hid (fun w' (g : Grew w0 w') => HVv540.out w' (g0.trans g))
  clear HVv540
  have HVv51 := Lib.hid (fun w' (g : Grew w0 w') => HVv510.out w' (g0.trans g))
  clear HVv510
  have HVv1 := Lib.hid (fun w' (g : Grew w0 w') => HVv10.out w' (g0.trans g))
  clear HVv10
  have HVv3 := Lib.hid (fun w' (g : Grew w0 w') => HVv30.out w' (g0.trans g))
  clear HVv30
  have HVv6 := Lib.hid (fun w' (g : Grew w0 w') => HVv60.out w' (g0.trans g))
  clear HVv60
  have HM := Lib.hid (HM0.out.grew g0)
  clear HM0 HOS
  refine region_deps 23 [some 78, some 79, some 80, some 81, some 82, some 83, some 84, some 85, some 86, some 87, some 88, some 89, some 90, some 91, some 92, some 93, some 94, some 95, some 96, some 97, some 98, some 99, some 11] [[], [], [], [], [], [], [], [], [], [], [], [], [], [], [], [], [], [], [], [], [], [16], []] [22] (rgDg w0 bk off n c tb tof ct a6 a7 a8 a9 c6 c7 c8 c9 y0 q1 q2 q3 ty mac) rgDg_grew rgDg_lt rgDg_loc (Grew.refl w0) (by kernel_rfl) (by kernel_rfl) ?_ ?_
  · simp only [List.take_succ_cons, List.take_zero]
    refine GivesAll.cons (fun vs w1 g1 hd K hK => ?_) ?_
    · simp only [putsT, Nat.zero_add, Nat.reduceAdd, List.getD_cons_zero, List.getD_cons_succ, Act.put, List.setIfInBounds_toArray, List.set_cons_zero, List.set_cons_succ] at hK ⊢
      go_simp
      exact hK _ _ (Grew.refl _) rfl (fun h => by simp at h)
    refine GivesAll.cons (fun vs w1 g1 hd K hK => ?_) ?_
    · have e0 : vs 0 = .slice (some ⟨bk, off, none⟩) n c := hd 0 (by kernel_rfl)
      simp only [putsT, Nat.zero_add, Nat.reduceAdd, List.getD_cons_zero, List.getD_cons_succ, Act.put, List.setIfInBounds_toArray, List.set_cons_zero, List.set_cons_succ, e0] at hK ⊢
      have l0 := HL0.out
      have l0n := HL0n.out
      go_simp
      exact hK _ _ (Grew.refl _) rfl (fun h => by simp at h)
    refine GivesAll.cons (fun vs w1 g1 hd K hK => ?_) ?_
    · have e1 : vs 1 = .pointer (some ⟨bk, off, none⟩) := hd 1 (by kernel_rfl)
      simp only [putsT, Nat.zero_add, Nat.reduceAdd, List.getD_cons_zero, List.getD_cons_succ, Act.put, List.setIfInBounds_toArray, List.set_cons_zero, List.set_cons_succ, e1] at hK ⊢
      have x0 := HX0.out w1 g1
      go_simp
      exact hK _ _ (Grew.refl _) rfl (fun h => by simp at h)
    refine GivesAll.cons (fun vs w1 g1 hd K hK => ?_) ?_
    · have e2 : vs 2 = .int .u8 y0 := hd 2 (by kernel_rfl)
      simp only [putsT, Nat.zero_add, Nat.reduceAdd, List.getD_cons_zero, List.getD_cons_succ, Act.put, List.setIfInBounds_toArray, List.set_cons_zero, List.set_cons_succ, e2] at hK ⊢
      have ew := EW0.out
      go_simp
      exact hK _ _ (Grew.refl _) rfl (fun h => by simp at h)
    refine GivesAll.cons (fun vs w1 g1 hd K hK => ?_) ?_
    · simp only [putsT, Nat.zero_add, Nat.reduceAdd, List.getD_cons_zero, List.getD_cons_succ, Act.put, List.setIfInBounds_toArray, List.set_cons_zero, List.set_cons_succ] at hK ⊢
      go_simp
      exact hK _ _ (Grew.refl _) rfl (fun h => by simp at h)
    refine GivesAll.cons (fun vs w1 g1 hd K hK => ?_) ?_
    · have e4 : vs 4 = .slice (some ⟨bk, off, none⟩) n c := hd 4 (by kernel_rfl)
      simp only [putsT, Nat.zero_add, Nat.reduceAdd, List.getD_cons_zero, List.getD_cons_succ, Act.put, List.setIfInBounds_toArray, List.set_cons_zero, List.set_cons_succ, e4] at hK ⊢
      have r := r6
      go_simp
      exact hK _ _ (Grew.refl _) rfl (fun h => by simp at h)
    refine GivesAll.cons (fun vs w1 g1 hd K hK => ?_) ?_
    · have e5 : vs 5 = .slice a6 4 c6 := hd 5 (by kernel_rfl)
      simp only [putsT, Nat.zero_add, Nat.reduceAdd, List.getD_cons_zero, List.getD_cons_succ, Act.put, List.setIfInBounds_toArray, List.set_cons_zero, List.set_cons_succ, e5] at hK ⊢
      go_simp
      refine Calls.mono (HQ1.out w1 g1) ?_
      rintro e w5 ⟨rfl, h5⟩
      obtain rfl := h5.symm
      exact hK _ _ (Grew.refl _) rfl (fun h => by simp at h)
    refine GivesAll.cons (fun vs w1 g1 hd K hK => ?_) ?_
    · simp only [putsT, Nat.zero_add, Nat.reduceAdd, List.getD_cons_zero, List.getD_cons_succ, Act.put, List.setIfInBounds_toArray, List.set_cons_zero, List.set_cons_succ] at hK ⊢
      go_simp
      exact hK _ _ (Grew.refl _) rfl (fun h => by simp at h)
    refine GivesAll.cons (fun vs w1 g1 hd K hK => ?_) ?_
    · have e7 : vs 7 = .slice (some ⟨bk, off, none⟩) n c := hd 7 (by kernel_rfl)
      simp only [putsT, Nat.zero_add, Nat.reduceAdd, List.getD_cons_zero, List.getD_cons_succ, Act.put, List.setIfInBounds_toArray, List.set_cons_zero, List.set_cons_succ, e7] at hK ⊢
      have r := r7
      go_simp
      exact hK _ _ (Grew.refl _) rfl (fun h => by simp at h)
    refine GivesAll.cons (fun vs w1 g1 hd K hK => ?_) ?_
    · have e6 : vs 6 = .int .u32 q1 := hd 6 (by kernel_rfl)
      have e8 : vs 8 = .slice a7 4 c7 := hd 8 (by kernel_rfl)
      simp only [putsT, Nat.zero_add, Nat.reduceAdd, List.getD_cons_zero, List.getD_cons_succ, Act.put, List.setIfInBounds_toArray, List.set_cons_zero, List.set_cons_succ, e6, e8] at hK ⊢
      go_simp
      refine Calls.mono (HQ2.out w1 g1) ?_
      rintro e w5 ⟨rfl, h5⟩
      obtain rfl := h5.symm
      exact hK _ _ (Grew.refl _) rfl (fun h => by simp at h)
    refine GivesAll.cons (fun vs w1 g1 hd K hK => ?_) ?_
    · simp only [putsT, Nat.zero_add, Nat.reduceAdd, List.getD_cons_zero, List.getD_cons_succ, Act.put, List.setIfInBounds_toArray, List.set_cons_zero, List.set_cons_succ] at hK ⊢
      go_simp
      exact hK _ _ (Grew.refl _) rfl (fun h => by simp at h)
    refine GivesAll.cons (fun vs w1 g1 hd K hK => ?_) ?_
    · have e10 : vs 10 = .slice (some ⟨bk, off, none⟩) n c := hd 10 (by kernel_rfl)
      simp only [putsT, Nat.zero_add, Nat.reduceAdd, List.getD_cons_zero, List.getD_cons_succ, Act.put, List.setIfInBounds_toArray, List.set_cons_zero, List.set_cons_succ, e10] at hK ⊢
      have r := r8
      go_simp
      exact hK _ _ (Grew.refl _) rfl (fun h => by simp at h)
    refine GivesAll.cons (fun vs w1 g1 hd K hK => ?_) ?_
    · have e9 : vs 9 = .int .u32 q2 := hd 9 (by kernel_rfl)
      have e11 : vs 11 = .slice a8 4 c8 := hd 11 (by kernel_rfl)
      simp only [putsT, Nat.zero_add, Nat.reduceAdd, List.getD_cons_zero, List.getD_cons_succ, Act.put, List.setIfInBounds_toArray, List.set_cons_zero, List.set_cons_succ, e9, e11] at hK ⊢
      go_simp
      refine Calls.mono (HQ3.out w1 g1) ?_
      rintro e w5 ⟨rfl, h5⟩
      obtain rfl := h5.symm
      exact hK _ _ (Grew.refl _) rfl (fun h => by simp at h)
    refine GivesAll.cons (fun vs w1 g1 hd K hK => ?_) ?_
    · simp only [putsT, Nat.zero_add, Nat.reduceAdd, List.getD_cons_zero, List.getD_cons_succ, Act.put, List.setIfInBounds_toArray, List.set_cons_zero, List.set_cons_succ] at hK ⊢
      go_simp
      exact hK _ _ ((Grew.refl _).alloc _) ⟨_, rfl, (Row.lit w1 w1.heap.size (Nat.le_refl _) #[] [] rfl (by unfold maxLen; simp) _ rfl 0 rfl).buf (fun z hz => by simp at hz)⟩ (fun h => by simp at h)
    refine GivesAll.cons (fun vs w1 g1 hd K hK => ?_) ?_
    · simp only [putsT, Nat.zero_add, Nat.reduceAdd, List.getD_cons_zero, List.getD_cons_succ, Act.put, List.setIfInBounds_toArray, List.set_cons_zero, List.set_cons_succ] at hK ⊢
      go_simp
      exact hK _ _ (Grew.refl _) rfl (fun h => by simp at h)
    refine GivesAll.cons (fun vs w1 g1 hd K hK => ?_) ?_
    · have e14 : vs 14 = .slice (some ⟨bk, off, none⟩) n c := hd 14 (by kernel_rfl)
      simp only [putsT, Nat.zero_add, Nat.reduceAdd, List.getD_cons_zero, List.getD_cons_succ, Act.put, List.setIfInBounds_toArray, List.set_cons_zero, List.set_cons_succ, e14] at hK ⊢
      have r := r9
      go_simp
      exact hK _ _ (Grew.refl _) rfl (fun h => by simp at h)
    refine GivesAll.cons (fun vs w1 g1 hd K hK => ?_) ?_
    · have e12 : vs 12 = .int .u32 q3 := hd 12 (by kernel_rfl)
      obtain ⟨b0_13, e13, r13_0⟩ := hd 13 (by kernel_rfl)
      have e15 : vs 15 = .slice a9 6 c9 := hd 15 (by kernel_rfl)
      simp only [putsT, Nat.zero_add, Nat.reduceAdd, List.getD_cons_zero, List.getD_cons_succ, Act.put, List.setIfInBounds_toArray, List.set_cons_zero, List.set_cons_succ, e12, e13, e15] at hK ⊢
      refine step_append_full rfl (.tmp 91) (.tmp 93) rfl r13_0 (HM.out.grew g1) (by rfl) (by rfl) (by have := HML.out; simp only [List.length_nil]; omega) ?_
      intro v' w' hb' g'
      rw [List.nil_append] at hb'
      obtain ⟨a', c', rfl, _, _⟩ := hb'.shape
      rw [HML.out] at hb' ⊢
      exact hK _ _ g' ⟨_, _, rfl, hb'⟩ (fun h => by simp at h)
    refine GivesAll.cons (fun vs w1 g1 hd K hK => ?_) ?_
    · simp only [putsT, Nat.zero_add, Nat.reduceAdd, List.getD_cons_zero, List.getD_cons_succ, Act.put, List.setIfInBounds_toArray, List.set_cons_zero, List.set_cons_succ] at hK ⊢
      go_simp
      exact hK _ _ (Grew.refl _) rfl (fun h => by simp at h)
    refine GivesAll.cons (fun vs w1 g1 hd K hK => ?_) ?_
    · have e17 : vs 17 = .slice (some ⟨tb, tof, none⟩) 1 ct := hd 17 (by kernel_rfl)
      simp only [putsT, Nat.zero_add, Nat.reduceAdd, List.getD_cons_zero, List.getD_cons_succ, Act.put, List.setIfInBounds_toArray, List.set_cons_zero, List.set_cons_succ, e17] at hK ⊢
      go_simp
      exact hK _ _ (Grew.refl _) rfl (fun h => by simp at h)
    refine GivesAll.cons (fun vs w1 g1 hd K hK => ?_) ?_
    · have e18 : vs 18 = .pointer (some ⟨tb, tof, none⟩) := hd 18 (by kernel_rfl)
      simp only [putsT, Nat.zero_add, Nat.reduceAdd, List.getD_cons_zero, List.getD_cons_succ, Act.put, List.setIfInBounds_toArray, List.set_cons_zero, List.set_cons_succ, e18] at hK ⊢
      have x0 := HT0.out w1 g1
      go_simp
      exact hK _ _ (Grew.refl _) rfl (fun h => by simp at h)
    refine GivesAll.cons (fun vs w1 g1 hd K hK => ?_) ?_
    · have e19 : vs 19 = .int .u8 ty := hd 19 (by kernel_rfl)
      simp only [putsT, Nat.zero_add, Nat.reduceAdd, List.getD_cons_zero, List.getD_cons_succ, Act.put, List.setIfInBounds_toArray, List.set_cons_zero, List.set_cons_succ, e19] at hK ⊢
      have ew := EWt.out
      go_simp
      exact hK _ _ (Grew.refl _) rfl (fun h => by simp at h)
    refine GivesAll.cons (fun vs w1 g1 hd K hK => ?_) ?_
    · have e3 : vs 3 = .int .i64 y0 := hd 3 (by kernel_rfl)
      have e6 : vs 6 = .int .u32 q1 := hd 6 (by kernel_rfl)
      have e9 : vs 9 = .int .u32 q2 := hd 9 (by kernel_rfl)
      have e12 : vs 12 = .int .u32 q3 := hd 12 (by kernel_rfl)
      obtain ⟨a_16, c_16, e16, r16_0⟩ := hd 16 (by kernel_rfl)
      have e20 : vs 20 = .int .i64 ty := hd 20 (by kernel_rfl)
      simp only [putsT, Nat.zero_add, Nat.reduceAdd, List.getD_cons_zero, List.getD_cons_succ, Act.put, List.setIfInBounds_toArray, List.set_cons_zero, List.set_cons_succ, e3, e6, e9, e12, e16, e20] at hK ⊢
      go_simp
      exact hK _ _ (Grew.refl _) (by show _ = _; simp only [e16]) (fun h => by simp at h)
    refine GivesAll.cons (fun vs w1 g1 hd K hK => ?_) ?_
    · simp only [putsT, Nat.zero_add, Nat.reduceAdd, List.getD_cons_zero, List.getD_cons_succ, Act.put, List.setIfInBounds_toArray, List.set_cons_zero, List.set_cons_succ] at hK ⊢
      go_simp
      exact hK _ _ ((Grew.refl _).alloc _) ⟨_, rfl, g1.size, Blk.new _ _ _ _ rfl⟩ (fun _ g hg => by simp only [leadsTo, Option.some.injEq] at hg; subst hg; exact Nat.le_refl _)
    exact GivesAll.nil
  intro vs wz gz hv hap
  have e0 : vs 0 = .slice (some ⟨bk, off, none⟩) n c := hv 0 (by decide)
  have e1 : vs 1 = .pointer (some ⟨bk, off, none⟩) := hv 1 (by decide)
  have e2 : vs 2 = .int .u8 y0 := hv 2 (by decide)
  have e3 : vs 3 = .int .i64 y0 := hv 3 (by decide)
  have e4 : vs 4 = .slice (some ⟨bk, off, none⟩) n c := hv 4 (by decide)
  have e5 : vs 5 = .slice a6 4 c6 := hv 5 (by decide)
  have e6 : vs 6 = .int .u32 q1 := hv 6 (by decide)
  have e7 : vs 7 = .slice (some ⟨bk, off, none⟩) n c := hv 7 (by decide)
  have e8 : vs 8 = .slice a7 4 c7 := hv 8 (by decide)
  have e9 : vs 9 = .int .u32 q2 := hv 9 (by decide)
  have e10 : vs 10 = .slice (some ⟨bk, off, none⟩) n c := hv 10 (by decide)
  have e11 : vs 11 = .slice a8 4 c8 := hv 11 (by decide)
  have e12 : vs 12 = .int .u32 q3 := hv 12 (by decide)
  obtain ⟨b0_13, e13, r13_0⟩ := hv 13 (by decide)
  have e14 : vs 14 = .slice (some ⟨bk, off, none⟩) n c := hv 14 (by decide)
  have e15 : vs 15 = .slice a9 6 c9 := hv 15 (by decide)
  obtain ⟨a_16, c_16, e16, r16_0⟩ := hv 16 (by decide)
  have e17 : vs 17 = .slice (some ⟨tb, tof, none⟩) 1 ct := hv 17 (by decide)
  have e18 : vs 18 = .pointer (some ⟨tb, tof, none⟩) := hv 18 (by decide)
  have e19 : vs 19 = .int .u8 ty := hv 19 (by decide)
  have e20 : vs 20 = .int .i64 ty := hv 20 (by decide)
  have e21 : vs 21 = .agg #[.int .i64 y0, .int .u32 q1, .int .u32 q2, .int .u32 q3, vs 16, .int .i64 ty, .int .u32 0, .int .u32 0, .int .u32 0, .int .u32 0, .int .u32 0, .int .u32 0] := hv 21 (by decide)
  obtain ⟨b0_22, e22, r22_0, r22_1⟩ := hv 22 (by decide)
  clear hv hap
  simp only [putsT, Nat.zero_add, Nat.reduceAdd, List.getD_cons_zero, List.getD_cons_succ, Act.put, List.setIfInBounds_toArray, List.set_cons_zero, List.set_cons_succ, List.drop_succ_cons, List.drop_zero, e0, e1, e2, e3, e4, e5, e6, e7, e8, e9, e10, e11, e12, e13, e14, e15, e16, e17, e18, e19, e20, e21, e22]
  clear e0 e1 e2 e3 e4 e5 e6 e7 e8 e9 e10 e11 e12 e13 e14 e15 e16 e17 e18 e19 e20 e21 e22
  have hRD0 := r22_0
  have hD := r22_1
  have hRz := hR.grew gz
  have hRD : R ≠ b0_22 := by have := hR.lt; omega
  have Gz := g0.trans gz
  have hwD : w.heap.size ≤ b0_22 := by have := g0.size; omega
  have hwD00 : w0.heap.size ≤ b0_22 := hRD0
  have HMAC := Lib.hid r16_0
  generalize b0_22 = D at *
  clear hR r13_0 r16_0 r22_0 r22_1
  refine wpList_store_any rfl 26 (.tmp 11) (.tmp 99) rfl rfl (new := #[.int .i64 y0, .int .u32 q1, .int .u32 q2, .int .u32 q3, .slice a_16 6 c_16, .int .i64 ty, .int .u32 0, .int .u32 0, .int .u32 0, .int .u32 0, .int .u32 0, .int .u32 0]) hD dhInfo rfl (by simp [Value.oneCell']) (by simp [noU8]) (by rfl) (by rfl) ?_
  intro w1 hD1 t1 kk1
  replace HMAC := Lib.hid (kk1 _ _ HMAC.out)
  have hR1 := hRz.trn t1 hRD
  have G1 := t1.grew Gz hwD
  have G1w := t1.grew gz hRD0
  clear t1 kk1 hD hRz Gz gz hRD0
  go_wp2_with fail
  refine (HVv50.out _ (G1w)).mono ?_
  rintro e wx ⟨rfl, h1⟩
  obtain rfl := h1.symm
  go_wp2_with fail
  refine (HVv54.out _ (G1w)).mono ?_
  rintro e wx ⟨rfl, h1⟩
  obtain rfl := h1.symm
  go_wp2_with fail
  refine (HVv51.out _ (G1w)).mono ?_
  rintro e wx ⟨rfl, h1⟩
  obtain rfl := h1.symm
  have x6 := hD1.cell 6
  have f6 := hD1.free 6
  have x7 := hD1.cell 7
  have f7 := hD1.free 7
  have x8 := hD1.cell 8
  have f8 := hD1.free 8
  go_upto_region 12 with fail
  have hD2 := (((hD1.set (o := 6) (.int .u32 v50)).set (o := 7) (.int .u32 v54)).set (o := 8) (.int .u32 v51))
  have hR2 := (((hR1.other (c := D) (o := 6) hRD (.int .u32 v50)).other (c := D) (o := 7) hRD (.int .u32 v54)).other (c := D) (o := 8) hRD (.int .u32 v51))
  have G2 := (((G1.setCell (b := D) (o := 6) (hwD) (.int .u32 v50)).setCell (b := D) (o := 7) (hwD) (.int .u32 v54)).setCell (b := D) (o := 8) (hwD) (.int .u32 v51))
  have KK := (((BufsKept.box (o := 6) hD1 (by simp [noU8]) (.int .u32 v50)).trans (BufsKept.box (o := 7) (hD1.set (o := 6) (.int .u32 v50)) (by simp [noU8]) (.int .u32 v54))).trans (BufsKept.box (o := 8) ((hD1.set (o := 6) (.int .u32 v50)).set (o := 7) (.int .u32 v54)) (by simp [noU8]) (.int .u32 v51)))
  replace HMAC := Lib.hid (KK _ _ HMAC.out)
  have HW2 : Hid (Grew w0 (((w1.setCell ⟨D, 6, none⟩ (.int .u32 v50)).setCell ⟨D, 7, none⟩ (.int .u32 v54)).setCell ⟨D, 8, none⟩ (.int .u32 v51))) := Lib.hid ((((G1w.setCell (b := D) (o := 6) (hwD00) (.int .u32 v50)).setCell (b := D) (o := 7) (hwD00) (.int .u32 v54)).setCell (b := D) (o := 8) (hwD00) (.int .u32 v51)))
  replace hD2 : Blk _ D #[.int .i64 y0, .int .u32 q1, .int .u32 q2, .int .u32 q3, .slice a_16 6 c_16, .int .i64 ty, .int .u32 v50, .int .u32 v54, .int .u32 v51, .int .u32 0, .int .u32 0, .int .u32 0] 26 := hD2
  clear KK x6 x7 x8 f6 f7 f8 hD1 hR1 G1
  generalize (((w1.setCell ⟨D, 6, none⟩ (.int .u32 v50)).setCell ⟨D, 7, none⟩ (.int .u32 v54)).setCell ⟨D, 8, none⟩ (.int .u32 v51)) = w2 at *
  go_wp2_with fail
  refine (HVv1.out _ (HW2.out)).mono ?_
  rintro e wx ⟨rfl, h1⟩
  obtain rfl := h1.symm
  go_wp2_with fail
  refine (HVv3.out _ (HW2.out)).mono ?_
  rintro e wx ⟨rfl, h1⟩
  obtain rfl := h1.symm
  go_wp2_with fail
  refine (HVv6.out _ (HW2.out)).mono ?_
  rintro e wx ⟨rfl, h1⟩
  obtain rfl := h1.symm
  have x9 := hD2.cell 9
  have f9 := hD2.free 9
  have x10 := hD2.cell 10
  have f10 := hD2.free 10
  have x11 := hD2.cell 11
  have f11 := hD2.free 11
  go_upto_region 13 with fail
  have hD3 := (((hD2.set (o := 9) (.int .u32 v1)).set (o := 10) (.int .u32 v3)).set (o := 11) (.int .u32 v6))
  have hR3 := (((hR2.other (c := D) (o := 9) hRD (.int .u32 v1)).other (c := D) (o := 10) hRD (.int .u32 v3)).other (c := D) (o := 11) hRD (.int .u32 v6))
  have G3 := (((G2.setCell (b := D) (o := 9) (hwD) (.int .u32 v1)).setCell (b := D) (o := 10) (hwD) (.int .u32 v3)).setCell (b := D) (o := 11) (hwD) (.int .u32 v6))
  have KK := (((BufsKept.box (o := 9) hD2 (by simp [noU8]) (.int .u32 v1)).trans (BufsKept.box (o := 10) (hD2.set (o := 9) (.int .u32 v1)) (by simp [noU8]) (.int .u32 v3))).trans (BufsKept.box (o := 11) ((hD2.set (o := 9) (.int .u32 v1)).set (o := 10) (.int .u32 v3)) (by simp [noU8]) (.int .u32 v6)))
  replace HMAC := Lib.hid (KK _ _ HMAC.out)
  replace hD3 : Blk _ D #[.int .i64 y0, .int .u32 q1, .int .u32 q2, .int .u32 q3, .slice a_16 6 c_16, .int .i64 ty, .int .u32 v50, .int .u32 v54, .int .u32 v51, .int .u32 v1, .int .u32 v3, .int .u32 v6] 26 := hD3
  clear KK x9 x10 x11 f9 f10 f11 hD2 hR2 G2 HW2
  generalize (((w2.setCell ⟨D, 9, none⟩ (.int .u32 v1)).setCell ⟨D, 10, none⟩ (.int .u32 v3)).setCell ⟨D, 11, none⟩ (.int .u32 v6)) = w3 at *
  have hwR : w.heap.size ≤ R := by omega
  go_wp2_with (first
    | (refine wpList_load_any rfl 26 (.tmp 11) rfl hD3 Try.underlying26 rfl dhInfo (by rfl) ?_)
    | (refine wpList_store_any rfl 26 (.tmp 2) (.tmp 118) rfl rfl (new := #[.int .i64 y0, .int .u32 q1, .int .u32 q2, .int .u32 q3, .slice a_16 6 c_16, .int .i64 ty, .int .u32 v50, .int .u32 v54, .int .u32 v51, .int .u32 v1, .int .u32 v3, .int .u32 v6]) hR3 dhInfo rfl (by simp [Value.oneCell']) (by simp [noU8]) (by rfl) (by rfl) ?_; intro w7 E t7 KR; have GE := t7.grew G3 hwR))
  have z0 := E.cell 0
  have z1 := E.cell 1
  have z2 := E.cell 2
  have z3 := E.cell 3
  have z4 := E.cell 4
  have z5 := E.cell 5
  have z6 := E.cell 6
  have z7 := E.cell 7
  have z8 := E.cell 8
  have z9 := E.cell 9
  have z10 := E.cell 10
  have z11 := E.cell 11
  have hfr := Dh.of (KR _ _ HMAC.out) HY0.out HQB.out.1 HQB.out.2.1 HQB.out.2.2 HTI.out HVB.out.1 HVB.out.2.1 HVB.out.2.2.1 HVB.out.2.2.2.1 HVB.out.2.2.2.2.1 HVB.out.2.2.2.2.2
  rw [HF.out]
  exact bodyPost_ret (v := .tuple #[.agg #[.int .i64 y0, .int .u32 q1, .int .u32 q2, .int .u32 q3, .slice a_16 6 c_16, .int .i64 ty, .int .u32 v50, .int .u32 v54, .int .u32 v51, .int .u32 v1, .int .u32 v3, .int .u32 v6], .int .i64 0]) (by simp [results, Try.results12, go_sem, z0, z1, z2, z3, z4, z5, z6, z7, z8, z9, z10, z11]) rfl ⟨_, rfl, hfr, GE⟩
theorem refGet20_c {v : Value} {xs : List Int} (hlx : xs.length ≤ 140737488355328) {w : World} (hb : Buf w v xs) :
    Calls Try.prog 12 #[v] w fun e w' => ∃ u, e = .returned (.tuple #[u, .int .i64 (getDHE xs)]) ∧ Dh w' u (getDH xs) ∧ Grew w w' := by
  have hq := hb
  obtain ⟨a, c, rfl, _, _⟩ := hb.shape
  have no : ∀ {k : Int}, getDHE xs = k → k ≠ 0 → (Calls Try.prog 12 #[.slice a xs.length c] w fun e w' => e = .returned (.tuple #[.agg #[.int .i64 0, .int .u32 0, .int .u32 0, .int .u32 0, .slice none 0 0, .int .i64 0, .int .u32 0, .int .u32 0, .int .u32 0, .int .u32 0, .int .u32 0, .int .u32 0], .int .i64 k]) ∧ Grew w w') → Calls Try.prog 12 #[.slice a xs.length c] w fun e w' => ∃ u, e = .returned (.tuple #[u, .int .i64 (getDHE xs)]) ∧ Dh w' u (getDH xs) ∧ Grew w w' := fun hk h0 h => by
    have hp : getDH xs = zDH := by unfold getDH; rw [if_neg (by rw [hk]; exact h0)]
    rw [hk, hp]
    exact h.mono fun _ w' ⟨h1, h2⟩ => ⟨_, h1, Dh.zero w', h2⟩
  by_cases k0 : xs.length < 240
  · exact no (k := 160) (by unfold getDHE; rw [if_pos k0]) (by decide) (refGetD_short a _ c (by omega) w)
  · cases k1 : hdOk xs
    · exact no (k := 161) (by unfold getDHE; rw [if_neg k0, if_pos k1]) (by decide) (refGetD_head a _ c xs (by omega) hlx hq k1)
    · cases k2 : (optV (xs.drop 240)).2
      · exact no (k := 161) (by unfold getDHE; rw [if_neg k0, if_neg (by rw [k1]; simp), if_pos (.inl k2)]) (by decide) (refGetD_form a _ c xs (by omega) hlx hq k1 k2)
      · have hos : AreBytes (xs.drop 240) := fun z hz => hq.ok z (List.mem_of_mem_drop hz)
        cases k3 : fstV (optV (xs.drop 240)).1 53 1 false with
        | none =>
          have ht : typV (xs.drop 240) = 0 := by unfold typV; rw [k3]
          exact no (k := 161) (by unfold getDHE; rw [if_neg k0, if_neg (by rw [k1]; simp), if_pos (.inr (.inl (by rw [ht]; decide)))]) (by decide) (refGetD_none a _ c xs (by omega) hlx hq k1 k2 k3)
        | some d =>
          have ht : typV (xs.drop 240) = d.getD 0 0 := by unfold typV; rw [k3]
          have hd1 := (fstV_ok hos k3).2
          by_cases k4 : d.getD 0 0 < 1
          · exact no (k := 161) (by unfold getDHE; rw [if_neg k0, if_neg (by rw [k1]; simp), if_pos (.inr (.inl (by rw [ht]; exact k4)))]) (by decide) (refGetD_low a _ c xs (by omega) hlx hq k1 k2 d k3 hd1 k4)
          · by_cases k5 : 8 < d.getD 0 0
            · exact no (k := 161) (by unfold getDHE; rw [if_neg k0, if_neg (by rw [k1]; simp), if_pos (.inr (.inr (by rw [ht]; exact k5)))]) (by decide) (refGetD_high a _ c xs (by omega) hlx hq k1 k2 d k3 hd1 k4 k5)
            · have h0 : getDHE xs = 0 := by unfold getDHE; rw [if_neg k0, if_neg (by rw [k1]; simp), if_neg (fun h => h.elim (fun h => by rw [k2] at h; cases h) (fun h => h.elim (fun h => k4 (by rw [← ht]; exact h)) (fun h => k5 (by rw [← ht]; exact h))))]
              have hp : getDH xs = dhOf xs := by unfold getDH; rw [if_pos h0]
              rw [h0, hp]
              exact refGetD_yes a _ c xs (by omega) hlx hq k1 k2 d k3 hd1 k4 k5
end Go.Proofs.Ytnmffkmpkgmkpaa
