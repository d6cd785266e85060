/-
  The document's own Get of a packet that may be; of all bytes.
-/
import Derived.Test.YtalbdeifkbfnbaaDoorIpG
import Derived.Test.YtalbdeifkbfnbaaDoorStep
import Derived.Test.YtalbdeifkbfnbaaDoorDeps
import Derived.Test.YtalbdeifkbfnbaaDoorKept
set_option maxRecDepth 4000
set_option linter.unusedVariables false
set_option linter.unusedSimpArgs false
namespace Go.Proofs.YtalbdeifkbfnbaaDoor
open Go.RowKit

/-- What the operations of a region give. -/
def rgpR (W : World) (bk off n c : Nat) (a4 : Option Addr) (c4 : Nat) (a5 : Option Addr) (c5 : Nat) (a6 : Option Addr) (c6 : Nat) (X : Nat) (t1 g4 t8 t9 g5 g6 : Int) : (Nat → Value) → Nat → Value → World → Prop
  | _, 0, v, _ => v = .slice (some ⟨bk, off, none⟩) n c
  | _, 1, v, _ => v = .pointer (some ⟨bk, off + 1, none⟩)
  | _, 2, v, _ => v = .int .u8 t1
  | _, 3, v, _ => v = .int .i64 t1
  | _, 4, v, _ => v = .slice (some ⟨bk, off, none⟩) n c
  | _, 5, v, _ => v = .slice a4 2 c4
  | _, 6, v, _ => v = .int .i64 g4
  | _, 7, v, _ => v = .int .i64 (X : Nat)
  | _, 8, v, _ => v = .int .i64 ((X : Nat) / 8192)
  | _, 9, v, _ => v = .int .i64 (X : Nat)
  | _, 10, v, _ => v = .int .i64 ((X : Nat) % 8192)
  | _, 11, v, _ => v = .slice (some ⟨bk, off, none⟩) n c
  | _, 12, v, _ => v = .pointer (some ⟨bk, off + 8, none⟩)
  | _, 13, v, _ => v = .int .u8 t8
  | _, 14, v, _ => v = .int .i64 t8
  | _, 15, v, _ => v = .slice (some ⟨bk, off, none⟩) n c
  | _, 16, v, _ => v = .pointer (some ⟨bk, off + 9, none⟩)
  | _, 17, v, _ => v = .int .u8 t9
  | _, 18, v, _ => v = .int .i64 t9
  | _, 19, v, _ => v = .slice (some ⟨bk, off, none⟩) n c
  | _, 20, v, _ => v = .slice a5 4 c5
  | _, 21, v, _ => v = .int .i64 g5
  | _, 22, v, _ => v = .int .u32 g5
  | _, 23, v, _ => v = .slice (some ⟨bk, off, none⟩) n c
  | _, 24, v, _ => v = .slice a6 4 c6
  | _, 25, v, _ => v = .int .i64 g6
  | _, 26, v, _ => v = .int .u32 g6
  | _, 27, v, _ => v = .agg #[.int .i64 t1, .int .i64 g4, .int .i64 ((X : Nat) / 8192), .int .i64 ((X : Nat) % 8192), .int .i64 t8, .int .i64 t9, .int .u32 g5, .int .u32 g6, .slice none 0 0, .slice none 0 0]
  | _, 28, v, w => ∃ b0, v = .pointer (some ⟨b0, 0, none⟩) ∧ W.heap.size ≤ b0 ∧ Blk w b0 #[.int .i64 0, .int .i64 0, .int .i64 0, .int .i64 0, .int .i64 0, .int .i64 0, .int .u32 0, .int .u32 0, .slice none 0 0, .slice none 0 0] 25
  | _, _, _, _ => True
theorem rgpR_grew {W : World} {bk off n c : Nat} {a4 : Option Addr} {c4 : Nat} {a5 : Option Addr} {c5 : Nat} {a6 : Option Addr} {c6 : Nat} {X : Nat} {t1 g4 t8 t9 g5 g6 : Int} : ∀ vs j v w w', Grew w w' → rgpR W bk off n c a4 c4 a5 c5 a6 c6 X t1 g4 t8 t9 g5 g6 vs j v w → rgpR W bk off n c a4 c4 a5 c5 a6 c6 X t1 g4 t8 t9 g5 g6 vs j v w'
  | _, 0, _, _, _, _, h => h
  | _, 1, _, _, _, _, h => h
  | _, 2, _, _, _, _, h => h
  | _, 3, _, _, _, _, h => h
  | _, 4, _, _, _, _, h => h
  | _, 5, _, _, _, _, h => h
  | _, 6, _, _, _, _, h => h
  | _, 7, _, _, _, _, h => h
  | _, 8, _, _, _, _, h => h
  | _, 9, _, _, _, _, h => h
  | _, 10, _, _, _, _, h => h
  | _, 11, _, _, _, _, h => h
  | _, 12, _, _, _, _, h => h
  | _, 13, _, _, _, _, h => h
  | _, 14, _, _, _, _, h => h
  | _, 15, _, _, _, _, h => h
  | _, 16, _, _, _, _, h => h
  | _, 17, _, _, _, _, h => h
  | _, 18, _, _, _, _, h => h
  | _, 19, _, _, _, _, h => h
  | _, 20, _, _, _, _, h => h
  | _, 21, _, _, _, _, h => h
  | _, 22, _, _, _, _, h => h
  | _, 23, _, _, _, _, h => h
  | _, 24, _, _, _, _, h => h
  | _, 25, _, _, _, _, h => h
  | _, 26, _, _, _, _, h => h
  | _, 27, _, _, _, _, h => h
  | _, 28, _, _, _, g, ⟨b0, e, h0, h1⟩ => ⟨b0, e, h0, h1.grew g⟩
  | _, _ + 29, _, _, _, _, _ => True.intro
theorem rgpR_lt {W : World} {bk off n c : Nat} {a4 : Option Addr} {c4 : Nat} {a5 : Option Addr} {c5 : Nat} {a6 : Option Addr} {c6 : Nat} {X : Nat} {t1 g4 t8 t9 g5 g6 : Int} : ∀ vs j v w, ([28] : List Nat).contains j = true → rgpR W bk off n c a4 c4 a5 c5 a6 c6 X t1 g4 t8 t9 g5 g6 vs j v w → ∀ g, leadsTo v = some g → g < w.heap.size
  | _, 0, _, _, hc, _ => by simp at hc
  | _, 1, _, _, hc, _ => by simp at hc
  | _, 2, _, _, hc, _ => by simp at hc
  | _, 3, _, _, hc, _ => by simp at hc
  | _, 4, _, _, hc, _ => by simp at hc
  | _, 5, _, _, hc, _ => by simp at hc
  | _, 6, _, _, hc, _ => by simp at hc
  | _, 7, _, _, hc, _ => by simp at hc
  | _, 8, _, _, hc, _ => by simp at hc
  | _, 9, _, _, hc, _ => by simp at hc
  | _, 10, _, _, hc, _ => by simp at hc
  | _, 11, _, _, hc, _ => by simp at hc
  | _, 12, _, _, hc, _ => by simp at hc
  | _, 13, _, _, hc, _ => by simp at hc
  | _, 14, _, _, hc, _ => by simp at hc
  | _, 15, _, _, hc, _ => by simp at hc
  | _, 16, _, _, hc, _ => by simp at hc
  | _, 17, _, _, hc, _ => by simp at hc
  | _, 18, _, _, hc, _ => by simp at hc
  | _, 19, _, _, hc, _ => by simp at hc
  | _, 20, _, _, hc, _ => by simp at hc
  | _, 21, _, _, hc, _ => by simp at hc
  | _, 22, _, _, hc, _ => by simp at hc
  | _, 23, _, _, hc, _ => by simp at hc
  | _, 24, _, _, hc, _ => by simp at hc
  | _, 25, _, _, hc, _ => by simp at hc
  | _, 26, _, _, hc, _ => by simp at hc
  | _, 27, _, _, hc, _ => by simp at hc
  | _, 28, _, w, _, ⟨b0, e, h0, h1⟩ => by subst e; intro g hg; simp only [leadsTo, Option.some.injEq] at hg; subst hg; exact h1.lt
  | _, _ + 29, _, _, hc, _ => by simp at hc
theorem rgpR_loc {W : World} {bk off n c : Nat} {a4 : Option Addr} {c4 : Nat} {a5 : Option Addr} {c5 : Nat} {a6 : Option Addr} {c6 : Nat} {X : Nat} {t1 g4 t8 t9 g5 g6 : Int} : ∀ (vs vs' : Nat → Value) j v w, (∀ k ∈ ([[], [], [], [], [], [], [], [], [], [], [], [], [], [], [], [], [], [], [], [], [], [], [], [], [], [], [], [], []] : List (List Nat)).getD j [], vs k = vs' k) → rgpR W bk off n c a4 c4 a5 c5 a6 c6 X t1 g4 t8 t9 g5 g6 vs j v w → rgpR W bk off n c a4 c4 a5 c5 a6 c6 X t1 g4 t8 t9 g5 g6 vs' j v w
  | _, _, 0, _, _, _, h => h
  | _, _, 1, _, _, _, h => h
  | _, _, 2, _, _, _, h => h
  | _, _, 3, _, _, _, h => h
  | _, _, 4, _, _, _, h => h
  | _, _, 5, _, _, _, h => h
  | _, _, 6, _, _, _, h => h
  | _, _, 7, _, _, _, h => h
  | _, _, 8, _, _, _, h => h
  | _, _, 9, _, _, _, h => h
  | _, _, 10, _, _, _, h => h
  | _, _, 11, _, _, _, h => h
  | _, _, 12, _, _, _, h => h
  | _, _, 13, _, _, _, h => h
  | _, _, 14, _, _, _, h => h
  | _, _, 15, _, _, _, h => h
  | _, _, 16, _, _, _, h => h
  | _, _, 17, _, _, _, h => h
  | _, _, 18, _, _, _, h => h
  | _, _, 19, _, _, _, h => h
  | _, _, 20, _, _, _, h => h
  | _, _, 21, _, _, _, h => h
  | _, _, 22, _, _, _, h => h
  | _, _, 23, _, _, _, h => h
  | _, _, 24, _, _, _, h => h
  | _, _, 25, _, _, _, h => h
  | _, _, 26, _, _, _, h => h
  | _, _, 27, _, _, _, h => h
  | _, _, 28, _, _, _, h => h
  | _, _, _ + 29, _, _, _, _ => True.intro
set_option maxHeartbeats 8000000 in
theorem refGetP_6 (a : Option Addr) (n c : Nat) (xs : List Int) (hs : ¬ ((n : Int) < 20)) {w : World} (hb : Buf w (.slice a n c) xs) (h1 : (xs.getD 0 0 / 16 != 4) = false) (h2 : ¬ hlV xs < 20) (h3 : ¬ xs.length < hlV xs) (h4 : sumV (cutL xs 0 (hlV xs)) = 0) (h5 : ¬ alV xs < hlV xs) (h6 : ¬ xs.length < alV xs) :
    Calls Tryd.prog 11 #[.slice a n c] w fun e w' => ∃ u, e = .returned (.tuple #[u, .int .i64 0]) ∧ Pk w' u (pkOf xs) ∧ Grew w w' := by
  have hn := hb.lenEq.1
  have hne : xs ≠ [] := by rintro rfl; simp at hn; omega
  obtain ⟨_, _, ea, _, hat⟩ := hb.shape
  simp only [Value.slice.injEq] at ea
  obtain ⟨rfl, hn', rfl⟩ := ea
  clear hn'
  obtain ⟨bk, off, rfl, hat2⟩ := hat hne
  have hbl := hat2.lt hne
  have x0 : w.cell? ⟨bk, off + 0, none⟩ = some (.int .u8 (xs.getD 0 0)) := hat2 0 (by omega)
  have hx0 := hb.ok.getD 0
  have hN : ((hlV xs : Nat) : Int) = xs.getD 0 0 % 16 * 4 := by unfold hlV; omega
  obtain ⟨N, hNe⟩ : ∃ N, N = hlV xs := ⟨_, rfl⟩
  rw [← hNe] at hN
  have HX0 := Lib.hid x0
  have HNE := Lib.hid hNe
  have HN := Lib.hid hn
  have HB := Lib.hid hb
  generalize xs.getD 0 0 = x at *
  rw [← hNe] at h2
  rw [← hNe, ← hn] at h3
  rw [← hNe] at h4
  rw [← hNe] at h5
  rw [← hn] at h6
  have HAT := Lib.hid hat2
  have HBL := Lib.hid hbl
  clear x0 hNe hat hat2 hne hn hb
  have k2 : ¬ ((N : Int) < 20) := by omega
  have k3 : ¬ (((n : Nat) : Int) < (N : Nat)) := by omega
  have hn := HN.out
  obtain ⟨a1, c1, H1, x1, x2, x3, x4⟩ := HB.out.run_cut (lo := 0) (hi := N) (by omega) (by omega)
  have r1 : ∀ w', (Instr.sliceAt 23 (.slice (some ⟨bk, off, none⟩) n c) none (some (.int .i64 (N : Nat))) none).run Tryd.prog w' = .ok (.slice a1 N c1) w' := x3 rfl .i64
  replace H1 : Hid (Buf w (.slice a1 N c1) (cutL xs 0 N)) := Lib.hid H1
  clear x1 x2 x3 x4
  have HR := Lib.hid (fun w' (g : Grew w w') => refRight_c w' (H1.out.grew g) (by rw [cutL_length (by omega) (by omega)]; omega))
  rw [show decide (sumV (cutL xs 0 N) = 0) = true by first | exact decide_eq_false h4 | exact decide_eq_true h4] at HR
  clear h4 hn
  have hn := HN.out
  obtain ⟨a2, c2, H2, x1, x2, x3, x4⟩ := HB.out.run_cut (lo := 2) (hi := 4) (by omega) (by omega)
  have r2 : ∀ w', (Instr.sliceAt 23 (.slice (some ⟨bk, off, none⟩) n c) (some (.int .i64 2)) (some (.int .i64 4)) none).run Tryd.prog w' = .ok (.slice a2 2 c2) w' := x2 .i64 .i64
  replace H2 : Hid (Buf w (.slice a2 2 c2) (cutL xs 2 4)) := Lib.hid H2
  clear x1 x2 x3 x4
  have HM := Lib.hid (fun w' (g : Grew w w') => refNumber_c (by rw [cutL_length (by omega) (by omega)]; omega) w' (H2.out.grew g))
  have hm0 := getG_lt (HB.out.ok.cut 2 4) true (n := 2) (cutL_length (by omega) (by omega)) (by omega)
  obtain ⟨M, hM⟩ : ∃ M, M = alV xs := ⟨_, rfl⟩
  have hMi : getV (cutL xs 2 4) true = (M : Int) := by rw [hM]; unfold alV; omega
  have HMM := Lib.hid hM
  rw [hMi] at HM
  rw [← hM] at h5 h6
  have HMB := Lib.hid (show M ≤ 65535 by rw [show (2 : Int) ^ (8 * 2) = 65536 by decide] at hm0; omega)
  clear hM hMi hm0 hn
  have k5 : ¬ (((M : Nat) : Int) < (N : Nat)) := by omega
  have k6 : ¬ (((n : Nat) : Int) < (M : Nat)) := by omega
  have hn := HN.out
  obtain ⟨a3, c3, H3, x1, x2, x3, x4⟩ := HB.out.run_cut (lo := 6) (hi := 8) (by omega) (by omega)
  have r3 : ∀ w', (Instr.sliceAt 23 (.slice (some ⟨bk, off, none⟩) n c) (some (.int .i64 6)) (some (.int .i64 8)) none).run Tryd.prog w' = .ok (.slice a3 2 c3) w' := x2 .i64 .i64
  replace H3 : Hid (Buf w (.slice a3 2 c3) (cutL xs 6 8)) := Lib.hid H3
  clear x1 x2 x3 x4
  obtain ⟨a4, c4, H4, x1, x2, x3, x4⟩ := HB.out.run_cut (lo := 4) (hi := 6) (by omega) (by omega)
  have r4 : ∀ w', (Instr.sliceAt 23 (.slice (some ⟨bk, off, none⟩) n c) (some (.int .i64 4)) (some (.int .i64 6)) none).run Tryd.prog w' = .ok (.slice a4 2 c4) w' := x2 .i64 .i64
  replace H4 : Hid (Buf w (.slice a4 2 c4) (cutL xs 4 6)) := Lib.hid H4
  clear x1 x2 x3 x4
  obtain ⟨a5, c5, H5, x1, x2, x3, x4⟩ := HB.out.run_cut (lo := 12) (hi := 16) (by omega) (by omega)
  have r5 : ∀ w', (Instr.sliceAt 23 (.slice (some ⟨bk, off, none⟩) n c) (some (.int .i64 12)) (some (.int .i64 16)) none).run Tryd.prog w' = .ok (.slice a5 4 c5) w' := x2 .i64 .i64
  replace H5 : Hid (Buf w (.slice a5 4 c5) (cutL xs 12 16)) := Lib.hid H5
  clear x1 x2 x3 x4
  obtain ⟨a6, c6, H6, x1, x2, x3, x4⟩ := HB.out.run_cut (lo := 16) (hi := 20) (by omega) (by omega)
  have r6 : ∀ w', (Instr.sliceAt 23 (.slice (some ⟨bk, off, none⟩) n c) (some (.int .i64 16)) (some (.int .i64 20)) none).run Tryd.prog w' = .ok (.slice a6 4 c6) w' := x2 .i64 .i64
  replace H6 : Hid (Buf w (.slice a6 4 c6) (cutL xs 16 20)) := Lib.hid H6
  clear x1 x2 x3 x4
  obtain ⟨a7, c7, H7, x1, x2, x3, x4⟩ := HB.out.run_cut (lo := 20) (hi := N) (by omega) (by omega)
  have r7 : ∀ w', (Instr.sliceAt 23 (.slice (some ⟨bk, off, none⟩) n c) (some (.int .i64 20)) (some (.int .i64 (N : Nat))) none).run Tryd.prog w' = .ok (.slice a7 (N - 20) c7) w' := x2 .i64 .i64
  replace H7 : Hid (Buf w (.slice a7 (N - 20) c7) (cutL xs 20 N)) := Lib.hid H7
  clear x1 x2 x3 x4
  obtain ⟨a8, c8, H8, x1, x2, x3, x4⟩ := HB.out.run_cut (lo := N) (hi := M) (by omega) (by omega)
  have r8 : ∀ w', (Instr.sliceAt 23 (.slice (some ⟨bk, off, none⟩) n c) (some (.int .i64 (N : Nat))) (some (.int .i64 (M : Nat))) none).run Tryd.prog w' = .ok (.slice a8 (M - N) c8) w' := x2 .i64 .i64
  replace H8 : Hid (Buf w (.slice a8 (M - N) c8) (cutL xs N M)) := Lib.hid H8
  clear x1 x2 x3 x4
  have HG3 := Lib.hid (fun w' (g : Grew w w') => refNumber_c (by rw [cutL_length (by omega) (by omega)]; omega) w' (H3.out.grew g))
  have HG4 := Lib.hid (fun w' (g : Grew w w') => refNumber_c (by rw [cutL_length (by omega) (by omega)]; omega) w' (H4.out.grew g))
  have HG5 := Lib.hid (fun w' (g : Grew w w') => refNumber_c (by rw [cutL_length (by omega) (by omega)]; omega) w' (H5.out.grew g))
  have HG6 := Lib.hid (fun w' (g : Grew w w') => refNumber_c (by rw [cutL_length (by omega) (by omega)]; omega) w' (H6.out.grew g))
  have hg3 := getG_lt (HB.out.ok.cut 6 8) true (n := 2) (cutL_length (by omega) (by omega)) (by omega)
  have hg4 := getG_lt (HB.out.ok.cut 4 6) true (n := 2) (cutL_length (by omega) (by omega)) (by omega)
  have hg5 := getG_lt (HB.out.ok.cut 12 16) true (n := 4) (cutL_length (by omega) (by omega)) (by omega)
  have hg6 := getG_lt (HB.out.ok.cut 16 20) true (n := 4) (cutL_length (by omega) (by omega)) (by omega)
  have p2 : (2 : Int) ^ (8 * 2) = 65536 := by decide
  have p4 : (2 : Int) ^ (8 * 4) = 4294967296 := by decide
  have HC1 : Hid (w.cell? ⟨bk, off + 1, none⟩ = some (.int .u8 (xs.getD 1 0))) := Lib.hid (HAT.out 1 (by omega))
  have HC8 : Hid (w.cell? ⟨bk, off + 8, none⟩ = some (.int .u8 (xs.getD 8 0))) := Lib.hid (HAT.out 8 (by omega))
  have HC9 : Hid (w.cell? ⟨bk, off + 9, none⟩ = some (.int .u8 (xs.getD 9 0))) := Lib.hid (HAT.out 9 (by omega))
  have hb1 := HB.out.ok.getD 1
  have hb8 := HB.out.ok.getD 8
  have hb9 := HB.out.ok.getD 9
  have HF : Hid (pkOf xs = ⟨xs.getD 1 0, getV (cutL xs 4 6) true, getV (cutL xs 6 8) true / 8192, getV (cutL xs 6 8) true % 8192, xs.getD 8 0, xs.getD 9 0, getV (cutL xs 12 16) true, getV (cutL xs 16 20) true, cutL xs 20 N, cutL xs N M⟩) := Lib.hid (by rw [HNE.out, HMM.out]; rfl)
  obtain ⟨X, hX⟩ : ∃ X : Nat, getV (cutL xs 6 8) true = (X : Int) := ⟨(getV (cutL xs 6 8) true).toNat, by omega⟩
  rw [hX] at HG3 HF hg3
  clear hX
  generalize xs.getD 1 0 = t1 at *
  generalize xs.getD 8 0 = t8 at *
  generalize xs.getD 9 0 = t9 at *
  generalize getV (cutL xs 4 6) true = g4 at *
  generalize getV (cutL xs 12 16) true = g5 at *
  generalize getV (cutL xs 16 20) true = g6 at *
  have EX1 := Lib.hid (show IntKind.i64.wrap ((X : Int) / 8192) = (X : Int) / 8192 from IntWalk.i64_in _ (by omega))
  have EX2 := Lib.hid (show IntKind.i64.wrap ((X : Int) % 8192) = (X : Int) % 8192 from IntWalk.i64_in _ (by omega))
  have EG5 := Lib.hid (show IntKind.u32.wrap g5 = g5 by rw [IntKind.wrap_u32]; omega)
  have EG6 := Lib.hid (show IntKind.u32.wrap g6 = g6 by rw [IntKind.wrap_u32]; omega)
  have Et1 := Lib.hid (show IntKind.i64.wrap t1 = t1 from IntWalk.i64_in _ (by omega))
  have Et8 := Lib.hid (show IntKind.i64.wrap t8 = t8 from IntWalk.i64_in _ (by omega))
  have Et9 := Lib.hid (show IntKind.i64.wrap t9 = t9 from IntWalk.i64_in _ (by omega))
  have HK20 := Lib.hid (show ((1 : Int) < (n : Nat)) ∧ ((8 : Int) < (n : Nat)) ∧ ((9 : Int) < (n : Nat)) by omega)
  have HI : Hid ((intI t1 ∧ intI g4 ∧ intI ((X : Int) / 8192) ∧ intI ((X : Int) % 8192)) ∧ (intI t8 ∧ intI t9 ∧ u32I g5 ∧ u32I g6)) := Lib.hid (by unfold intI u32I; omega)
  have HL7 : Hid (([] : List Int).length + (cutL xs 20 N).length ≤ 140737488355328) := Lib.hid (by rw [cutL_length (by omega) (by omega)]; simp; omega)
  have HL8 : Hid (([] : List Int).length + (cutL xs N M).length ≤ 140737488355328) := Lib.hid (by rw [cutL_length (by omega) (by omega)]; have := HMB.out; simp; omega)
  have HO7 := Lib.hid (HB.out.ok.cut 20 N)
  have HO8 := Lib.hid (HB.out.ok.cut N M)
  clear p2 p4 hb1 hb8 hb9 hg3 hg4 hg5 hg6 hn H3 H4 H5 H6 HAT
  go_enter Tryd.func11, Tryd.ntmps11
  go_upto_region 1 with fail
  have hR : Blk (w.alloc (.cells #[.int .i64 0, .int .i64 0, .int .i64 0, .int .i64 0, .int .i64 0, .int .i64 0, .int .u32 0, .int .u32 0, .slice none 0 0, .slice none 0 0] 25)) w.heap.size #[.int .i64 0, .int .i64 0, .int .i64 0, .int .i64 0, .int .i64 0, .int .i64 0, .int .u32 0, .int .u32 0, .slice none 0 0, .slice none 0 0] 25 := Blk.new _ _ _ _ rfl
  have G : Grew w (w.alloc (.cells #[.int .i64 0, .int .i64 0, .int .i64 0, .int .i64 0, .int .i64 0, .int .i64 0, .int .u32 0, .int .u32 0, .slice none 0 0, .slice none 0 0] 25)) := (Grew.refl _).alloc _
  generalize (w.alloc (.cells #[.int .i64 0, .int .i64 0, .int .i64 0, .int .i64 0, .int .i64 0, .int .i64 0, .int .u32 0, .int .u32 0, .slice none 0 0, .slice none 0 0] 25)) = w0 at *
  generalize hlR : w.heap.size = R at *
  have y0 : w0.cell? ⟨bk, off, none⟩ = some (.int .u8 x) := by rw [(gcell G).1 bk off (by rw [hlR]; exact hbl)]; exact HX0.out
  go_upto_region 4 with fail
  rw [← hN]
  clear hN
  go_wp2_with fail
  refine (HR.out _ G).mono ?_
  rintro e w1 ⟨rfl, g1⟩
  have G1 := G.trans g1
  go_wp2_with fail
  refine (HM.out _ G1).mono ?_
  rintro e w2 ⟨rfl, g2⟩
  have G2 := G1.trans g2
  go_wp2_with fail
  refine (HG3.out _ G2).mono ?_
  rintro e w3 ⟨rfl, g3⟩
  have G3 := G2.trans g3
  have hR3 := hR.grew ((g1.trans g2).trans g3)
  clear y0 G1 G2 g1 g2 g3 hR HR HM HG3
  go_upto_region 16 with fail
  refine region_deps 29 [some 54, some 55, some 56, some 57, some 58, some 59, some 60, some 61, some 62, some 63, some 64, some 65, some 66, some 67, some 68, some 69, some 70, some 71, some 72, some 73, some 74, some 75, some 76, some 77, some 78, some 79, some 80, some 81, some 7] [[], [], [], [], [], [], [], [], [], [], [], [], [], [], [], [], [], [], [], [], [], [], [], [], [], [], [], [], []] [28] (rgpR w3 bk off n c a4 c4 a5 c5 a6 c6 X t1 g4 t8 t9 g5 g6) rgpR_grew rgpR_lt rgpR_loc (Grew.refl w3) (by kernel_rfl) (by kernel_rfl) ?_ ?_
  · simp only [List.take_succ_cons, List.take_zero]
    refine GivesAll.cons (fun vs w1 g1 hd K hK => ?_) ?_
    · simp only [putsT, Nat.zero_add, Nat.reduceAdd, List.getD_cons_zero, List.getD_cons_succ, Act.put, List.setIfInBounds_toArray, List.set_cons_zero, List.set_cons_succ] at hK ⊢
      go_simp
      exact hK _ _ (Grew.refl _) rfl (fun h => by simp at h)
    refine GivesAll.cons (fun vs w1 g1 hd K hK => ?_) ?_
    · have e0 : vs 0 = .slice (some ⟨bk, off, none⟩) n c := hd 0 (by kernel_rfl)
      simp only [putsT, Nat.zero_add, Nat.reduceAdd, List.getD_cons_zero, List.getD_cons_succ, Act.put, List.setIfInBounds_toArray, List.set_cons_zero, List.set_cons_succ, e0] at hK ⊢
      have hk0 := HK20.out
      go_simp
      exact hK _ _ (Grew.refl _) rfl (fun h => by simp at h)
    refine GivesAll.cons (fun vs w1 g1 hd K hK => ?_) ?_
    · have e1 : vs 1 = .pointer (some ⟨bk, off + 1, none⟩) := hd 1 (by kernel_rfl)
      simp only [putsT, Nat.zero_add, Nat.reduceAdd, List.getD_cons_zero, List.getD_cons_succ, Act.put, List.setIfInBounds_toArray, List.set_cons_zero, List.set_cons_succ, e1] at hK ⊢
      have z0 : w1.cell? ⟨bk, off + 1, none⟩ = some (.int .u8 t1) := by rw [(gcell (G3.trans g1)).1 bk _ (by rw [hlR]; exact HBL.out)]; exact HC1.out
      go_simp
      exact hK _ _ (Grew.refl _) rfl (fun h => by simp at h)
    refine GivesAll.cons (fun vs w1 g1 hd K hK => ?_) ?_
    · have e2 : vs 2 = .int .u8 t1 := hd 2 (by kernel_rfl)
      simp only [putsT, Nat.zero_add, Nat.reduceAdd, List.getD_cons_zero, List.getD_cons_succ, Act.put, List.setIfInBounds_toArray, List.set_cons_zero, List.set_cons_succ, e2] at hK ⊢
      have ew := Et1.out
      go_simp
      exact hK _ _ (Grew.refl _) rfl (fun h => by simp at h)
    refine GivesAll.cons (fun vs w1 g1 hd K hK => ?_) ?_
    · simp only [putsT, Nat.zero_add, Nat.reduceAdd, List.getD_cons_zero, List.getD_cons_succ, Act.put, List.setIfInBounds_toArray, List.set_cons_zero, List.set_cons_succ] at hK ⊢
      go_simp
      exact hK _ _ (Grew.refl _) rfl (fun h => by simp at h)
    refine GivesAll.cons (fun vs w1 g1 hd K hK => ?_) ?_
    · have e4 : vs 4 = .slice (some ⟨bk, off, none⟩) n c := hd 4 (by kernel_rfl)
      simp only [putsT, Nat.zero_add, Nat.reduceAdd, List.getD_cons_zero, List.getD_cons_succ, Act.put, List.setIfInBounds_toArray, List.set_cons_zero, List.set_cons_succ, e4] at hK ⊢
      go_simp
      exact hK _ _ (Grew.refl _) rfl (fun h => by simp at h)
    refine GivesAll.cons (fun vs w1 g1 hd K hK => ?_) ?_
    · have e5 : vs 5 = .slice a4 2 c4 := hd 5 (by kernel_rfl)
      simp only [putsT, Nat.zero_add, Nat.reduceAdd, List.getD_cons_zero, List.getD_cons_succ, Act.put, List.setIfInBounds_toArray, List.set_cons_zero, List.set_cons_succ, e5] at hK ⊢
      go_simp
      refine Calls.mono (HG4.out w1 (G3.trans g1)) ?_
      rintro e w5 ⟨rfl, g5⟩
      exact hK _ _ g5 rfl (fun h => by simp at h)
    refine GivesAll.cons (fun vs w1 g1 hd K hK => ?_) ?_
    · simp only [putsT, Nat.zero_add, Nat.reduceAdd, List.getD_cons_zero, List.getD_cons_succ, Act.put, List.setIfInBounds_toArray, List.set_cons_zero, List.set_cons_succ] at hK ⊢
      go_simp
      exact hK _ _ (Grew.refl _) rfl (fun h => by simp at h)
    refine GivesAll.cons (fun vs w1 g1 hd K hK => ?_) ?_
    · have e7 : vs 7 = .int .i64 (X : Nat) := hd 7 (by kernel_rfl)
      simp only [putsT, Nat.zero_add, Nat.reduceAdd, List.getD_cons_zero, List.getD_cons_succ, Act.put, List.setIfInBounds_toArray, List.set_cons_zero, List.set_cons_succ, e7] at hK ⊢
      have ew := EX1.out
      go_simp
      exact hK _ _ (Grew.refl _) rfl (fun h => by simp at h)
    refine GivesAll.cons (fun vs w1 g1 hd K hK => ?_) ?_
    · simp only [putsT, Nat.zero_add, Nat.reduceAdd, List.getD_cons_zero, List.getD_cons_succ, Act.put, List.setIfInBounds_toArray, List.set_cons_zero, List.set_cons_succ] at hK ⊢
      go_simp
      exact hK _ _ (Grew.refl _) rfl (fun h => by simp at h)
    refine GivesAll.cons (fun vs w1 g1 hd K hK => ?_) ?_
    · have e9 : vs 9 = .int .i64 (X : Nat) := hd 9 (by kernel_rfl)
      simp only [putsT, Nat.zero_add, Nat.reduceAdd, List.getD_cons_zero, List.getD_cons_succ, Act.put, List.setIfInBounds_toArray, List.set_cons_zero, List.set_cons_succ, e9] at hK ⊢
      have ew := EX2.out
      go_simp
      exact hK _ _ (Grew.refl _) rfl (fun h => by simp at h)
    refine GivesAll.cons (fun vs w1 g1 hd K hK => ?_) ?_
    · simp only [putsT, Nat.zero_add, Nat.reduceAdd, List.getD_cons_zero, List.getD_cons_succ, Act.put, List.setIfInBounds_toArray, List.set_cons_zero, List.set_cons_succ] at hK ⊢
      go_simp
      exact hK _ _ (Grew.refl _) rfl (fun h => by simp at h)
    refine GivesAll.cons (fun vs w1 g1 hd K hK => ?_) ?_
    · have e11 : vs 11 = .slice (some ⟨bk, off, none⟩) n c := hd 11 (by kernel_rfl)
      simp only [putsT, Nat.zero_add, Nat.reduceAdd, List.getD_cons_zero, List.getD_cons_succ, Act.put, List.setIfInBounds_toArray, List.set_cons_zero, List.set_cons_succ, e11] at hK ⊢
      have hk0 := HK20.out
      go_simp
      exact hK _ _ (Grew.refl _) rfl (fun h => by simp at h)
    refine GivesAll.cons (fun vs w1 g1 hd K hK => ?_) ?_
    · have e12 : vs 12 = .pointer (some ⟨bk, off + 8, none⟩) := hd 12 (by kernel_rfl)
      simp only [putsT, Nat.zero_add, Nat.reduceAdd, List.getD_cons_zero, List.getD_cons_succ, Act.put, List.setIfInBounds_toArray, List.set_cons_zero, List.set_cons_succ, e12] at hK ⊢
      have z0 : w1.cell? ⟨bk, off + 8, none⟩ = some (.int .u8 t8) := by rw [(gcell (G3.trans g1)).1 bk _ (by rw [hlR]; exact HBL.out)]; exact HC8.out
      go_simp
      exact hK _ _ (Grew.refl _) rfl (fun h => by simp at h)
    refine GivesAll.cons (fun vs w1 g1 hd K hK => ?_) ?_
    · have e13 : vs 13 = .int .u8 t8 := hd 13 (by kernel_rfl)
      simp only [putsT, Nat.zero_add, Nat.reduceAdd, List.getD_cons_zero, List.getD_cons_succ, Act.put, List.setIfInBounds_toArray, List.set_cons_zero, List.set_cons_succ, e13] at hK ⊢
      have ew := Et8.out
      go_simp
      exact hK _ _ (Grew.refl _) rfl (fun h => by simp at h)
    refine GivesAll.cons (fun vs w1 g1 hd K hK => ?_) ?_
    · simp only [putsT, Nat.zero_add, Nat.reduceAdd, List.getD_cons_zero, List.getD_cons_succ, Act.put, List.setIfInBounds_toArray, List.set_cons_zero, List.set_cons_succ] at hK ⊢
      go_simp
      exact hK _ _ (Grew.refl _) rfl (fun h => by simp at h)
    refine GivesAll.cons (fun vs w1 g1 hd K hK => ?_) ?_
    · have e15 : vs 15 = .slice (some ⟨bk, off, none⟩) n c := hd 15 (by kernel_rfl)
      simp only [putsT, Nat.zero_add, Nat.reduceAdd, List.getD_cons_zero, List.getD_cons_succ, Act.put, List.setIfInBounds_toArray, List.set_cons_zero, List.set_cons_succ, e15] at hK ⊢
      have hk0 := HK20.out
      go_simp
      exact hK _ _ (Grew.refl _) rfl (fun h => by simp at h)
    refine GivesAll.cons (fun vs w1 g1 hd K hK => ?_) ?_
    · have e16 : vs 16 = .pointer (some ⟨bk, off + 9, none⟩) := hd 16 (by kernel_rfl)
      simp only [putsT, Nat.zero_add, Nat.reduceAdd, List.getD_cons_zero, List.getD_cons_succ, Act.put, List.setIfInBounds_toArray, List.set_cons_zero, List.set_cons_succ, e16] at hK ⊢
      have z0 : w1.cell? ⟨bk, off + 9, none⟩ = some (.int .u8 t9) := by rw [(gcell (G3.trans g1)).1 bk _ (by rw [hlR]; exact HBL.out)]; exact HC9.out
      go_simp
      exact hK _ _ (Grew.refl _) rfl (fun h => by simp at h)
    refine GivesAll.cons (fun vs w1 g1 hd K hK => ?_) ?_
    · have e17 : vs 17 = .int .u8 t9 := hd 17 (by kernel_rfl)
      simp only [putsT, Nat.zero_add, Nat.reduceAdd, List.getD_cons_zero, List.getD_cons_succ, Act.put, List.setIfInBounds_toArray, List.set_cons_zero, List.set_cons_succ, e17] at hK ⊢
      have ew := Et9.out
      go_simp
      exact hK _ _ (Grew.refl _) rfl (fun h => by simp at h)
    refine GivesAll.cons (fun vs w1 g1 hd K hK => ?_) ?_
    · simp only [putsT, Nat.zero_add, Nat.reduceAdd, List.getD_cons_zero, List.getD_cons_succ, Act.put, List.setIfInBounds_toArray, List.set_cons_zero, List.set_cons_succ] at hK ⊢
      go_simp
      exact hK _ _ (Grew.refl _) rfl (fun h => by simp at h)
    refine GivesAll.cons (fun vs w1 g1 hd K hK => ?_) ?_
    · have e19 : vs 19 = .slice (some ⟨bk, off, none⟩) n c := hd 19 (by kernel_rfl)
      simp only [putsT, Nat.zero_add, Nat.reduceAdd, List.getD_cons_zero, List.getD_cons_succ, Act.put, List.setIfInBounds_toArray, List.set_cons_zero, List.set_cons_succ, e19] at hK ⊢
      go_simp
      exact hK _ _ (Grew.refl _) rfl (fun h => by simp at h)
    refine GivesAll.cons (fun vs w1 g1 hd K hK => ?_) ?_
    · have e20 : vs 20 = .slice a5 4 c5 := hd 20 (by kernel_rfl)
      simp only [putsT, Nat.zero_add, Nat.reduceAdd, List.getD_cons_zero, List.getD_cons_succ, Act.put, List.setIfInBounds_toArray, List.set_cons_zero, List.set_cons_succ, e20] at hK ⊢
      go_simp
      refine Calls.mono (HG5.out w1 (G3.trans g1)) ?_
      rintro e w5 ⟨rfl, g5⟩
      exact hK _ _ g5 rfl (fun h => by simp at h)
    refine GivesAll.cons (fun vs w1 g1 hd K hK => ?_) ?_
    · have e21 : vs 21 = .int .i64 g5 := hd 21 (by kernel_rfl)
      simp only [putsT, Nat.zero_add, Nat.reduceAdd, List.getD_cons_zero, List.getD_cons_succ, Act.put, List.setIfInBounds_toArray, List.set_cons_zero, List.set_cons_succ, e21] at hK ⊢
      have ew := EG5.out
      go_simp
      exact hK _ _ (Grew.refl _) rfl (fun h => by simp at h)
    refine GivesAll.cons (fun vs w1 g1 hd K hK => ?_) ?_
    · simp only [putsT, Nat.zero_add, Nat.reduceAdd, List.getD_cons_zero, List.getD_cons_succ, Act.put, List.setIfInBounds_toArray, List.set_cons_zero, List.set_cons_succ] at hK ⊢
      go_simp
      exact hK _ _ (Grew.refl _) rfl (fun h => by simp at h)
    refine GivesAll.cons (fun vs w1 g1 hd K hK => ?_) ?_
    · have e23 : vs 23 = .slice (some ⟨bk, off, none⟩) n c := hd 23 (by kernel_rfl)
      simp only [putsT, Nat.zero_add, Nat.reduceAdd, List.getD_cons_zero, List.getD_cons_succ, Act.put, List.setIfInBounds_toArray, List.set_cons_zero, List.set_cons_succ, e23] at hK ⊢
      go_simp
      exact hK _ _ (Grew.refl _) rfl (fun h => by simp at h)
    refine GivesAll.cons (fun vs w1 g1 hd K hK => ?_) ?_
    · have e24 : vs 24 = .slice a6 4 c6 := hd 24 (by kernel_rfl)
      simp only [putsT, Nat.zero_add, Nat.reduceAdd, List.getD_cons_zero, List.getD_cons_succ, Act.put, List.setIfInBounds_toArray, List.set_cons_zero, List.set_cons_succ, e24] at hK ⊢
      go_simp
      refine Calls.mono (HG6.out w1 (G3.trans g1)) ?_
      rintro e w5 ⟨rfl, g5⟩
      exact hK _ _ g5 rfl (fun h => by simp at h)
    refine GivesAll.cons (fun vs w1 g1 hd K hK => ?_) ?_
    · have e25 : vs 25 = .int .i64 g6 := hd 25 (by kernel_rfl)
      simp only [putsT, Nat.zero_add, Nat.reduceAdd, List.getD_cons_zero, List.getD_cons_succ, Act.put, List.setIfInBounds_toArray, List.set_cons_zero, List.set_cons_succ, e25] at hK ⊢
      have ew := EG6.out
      go_simp
      exact hK _ _ (Grew.refl _) rfl (fun h => by simp at h)
    refine GivesAll.cons (fun vs w1 g1 hd K hK => ?_) ?_
    · have e3 : vs 3 = .int .i64 t1 := hd 3 (by kernel_rfl)
      have e6 : vs 6 = .int .i64 g4 := hd 6 (by kernel_rfl)
      have e8 : vs 8 = .int .i64 ((X : Nat) / 8192) := hd 8 (by kernel_rfl)
      have e10 : vs 10 = .int .i64 ((X : Nat) % 8192) := hd 10 (by kernel_rfl)
      have e14 : vs 14 = .int .i64 t8 := hd 14 (by kernel_rfl)
      have e18 : vs 18 = .int .i64 t9 := hd 18 (by kernel_rfl)
      have e22 : vs 22 = .int .u32 g5 := hd 22 (by kernel_rfl)
      have e26 : vs 26 = .int .u32 g6 := hd 26 (by kernel_rfl)
      simp only [putsT, Nat.zero_add, Nat.reduceAdd, List.getD_cons_zero, List.getD_cons_succ, Act.put, List.setIfInBounds_toArray, List.set_cons_zero, List.set_cons_succ, e3, e6, e8, e10, e14, e18, e22, e26] at hK ⊢
      go_simp
      exact hK _ _ (Grew.refl _) rfl (fun h => by simp at h)
    refine GivesAll.cons (fun vs w1 g1 hd K hK => ?_) ?_
    · simp only [putsT, Nat.zero_add, Nat.reduceAdd, List.getD_cons_zero, List.getD_cons_succ, Act.put, List.setIfInBounds_toArray, List.set_cons_zero, List.set_cons_succ] at hK ⊢
      go_simp
      exact hK _ _ ((Grew.refl _).alloc _) ⟨_, rfl, g1.size, Blk.new _ _ _ _ rfl⟩ (fun _ g hg => by simp only [leadsTo, Option.some.injEq] at hg; subst hg; exact Nat.le_refl _)
    exact GivesAll.nil
  intro vs wz gz hv hap
  have e0 : vs 0 = .slice (some ⟨bk, off, none⟩) n c := hv 0 (by decide)
  have e1 : vs 1 = .pointer (some ⟨bk, off + 1, none⟩) := hv 1 (by decide)
  have e2 : vs 2 = .int .u8 t1 := hv 2 (by decide)
  have e3 : vs 3 = .int .i64 t1 := hv 3 (by decide)
  have e4 : vs 4 = .slice (some ⟨bk, off, none⟩) n c := hv 4 (by decide)
  have e5 : vs 5 = .slice a4 2 c4 := hv 5 (by decide)
  have e6 : vs 6 = .int .i64 g4 := hv 6 (by decide)
  have e7 : vs 7 = .int .i64 (X : Nat) := hv 7 (by decide)
  have e8 : vs 8 = .int .i64 ((X : Nat) / 8192) := hv 8 (by decide)
  have e9 : vs 9 = .int .i64 (X : Nat) := hv 9 (by decide)
  have e10 : vs 10 = .int .i64 ((X : Nat) % 8192) := hv 10 (by decide)
  have e11 : vs 11 = .slice (some ⟨bk, off, none⟩) n c := hv 11 (by decide)
  have e12 : vs 12 = .pointer (some ⟨bk, off + 8, none⟩) := hv 12 (by decide)
  have e13 : vs 13 = .int .u8 t8 := hv 13 (by decide)
  have e14 : vs 14 = .int .i64 t8 := hv 14 (by decide)
  have e15 : vs 15 = .slice (some ⟨bk, off, none⟩) n c := hv 15 (by decide)
  have e16 : vs 16 = .pointer (some ⟨bk, off + 9, none⟩) := hv 16 (by decide)
  have e17 : vs 17 = .int .u8 t9 := hv 17 (by decide)
  have e18 : vs 18 = .int .i64 t9 := hv 18 (by decide)
  have e19 : vs 19 = .slice (some ⟨bk, off, none⟩) n c := hv 19 (by decide)
  have e20 : vs 20 = .slice a5 4 c5 := hv 20 (by decide)
  have e21 : vs 21 = .int .i64 g5 := hv 21 (by decide)
  have e22 : vs 22 = .int .u32 g5 := hv 22 (by decide)
  have e23 : vs 23 = .slice (some ⟨bk, off, none⟩) n c := hv 23 (by decide)
  have e24 : vs 24 = .slice a6 4 c6 := hv 24 (by decide)
  have e25 : vs 25 = .int .i64 g6 := hv 25 (by decide)
  have e26 : vs 26 = .int .u32 g6 := hv 26 (by decide)
  have e27 : vs 27 = .agg #[.int .i64 t1, .int .i64 g4, .int .i64 ((X : Nat) / 8192), .int .i64 ((X : Nat) % 8192), .int .i64 t8, .int .i64 t9, .int .u32 g5, .int .u32 g6, .slice none 0 0, .slice none 0 0] := hv 27 (by decide)
  obtain ⟨b0_28, e28, r28_0, r28_1⟩ := hv 28 (by decide)
  clear hv hap
  simp only [putsT, Nat.zero_add, Nat.reduceAdd, List.getD_cons_zero, List.getD_cons_succ, Act.put, List.setIfInBounds_toArray, List.set_cons_zero, List.set_cons_succ, List.drop_succ_cons, List.drop_zero, e0, e1, e2, e3, e4, e5, e6, e7, e8, e9, e10, e11, e12, e13, e14, e15, e16, e17, e18, e19, e20, e21, e22, e23, e24, e25, e26, e27, e28]
  clear e0 e1 e2 e3 e4 e5 e6 e7 e8 e9 e10 e11 e12 e13 e14 e15 e16 e17 e18 e19 e20 e21 e22 e23 e24 e25 e26 e27 e28
  have hRz := hR3.grew gz
  have Gz := G3.trans gz
  have hRD : R ≠ b0_28 := by have := hR3.lt; omega
  generalize b0_28 = D at *
  have hDw : w.heap.size ≤ D := by have := G3.size; omega
  clear hR3 gz
  refine wpList_store_any rfl 25 (.tmp 7) (.tmp 81) rfl rfl (new := #[.int .i64 t1, .int .i64 g4, .int .i64 ((X : Nat) / 8192), .int .i64 ((X : Nat) % 8192), .int .i64 t8, .int .i64 t9, .int .u32 g5, .int .u32 g6, .slice none 0 0, .slice none 0 0]) r28_1 ipInfo rfl (by simp [Value.oneCell']) (by simp [noU8]) (by rfl) (by rfl) ?_
  intro w4 hD t4 kk4
  have hR4 := hRz.trn t4 hRD
  have G4 := t4.grew Gz hDw
  clear t4 kk4 r28_0 r28_1 hRz Gz
  go_upto_region 17 with fail
  skip
  have ge17 : Grew w4 (w4.alloc (.cells #[] 5)) := (Grew.refl w4).alloc _
  have HE17 : Hid (Row (w4.alloc (.cells #[] 5)) w4.heap.size (.slice (some ⟨w4.heap.size, 0, none⟩) 0 0) []) := Lib.hid (Row.lit w4 w4.heap.size (Nat.le_refl _) #[] [] rfl (by unfold maxLen; simp) _ rfl 0 rfl)
  have HS17 := Lib.hid ((H7.out.grew G4).grew ge17)
  go_upto_region 18 with (first | (refine wpList_append_b (W := w4) rfl (.tmp 82) (.tmp 85) rfl ge17 HE17.out HS17.out (by rfl) (by rfl) HL7.out ?_; intro v17 x17 R17 g17 y17; clear y17; have hb17 := R17.out.buf HO7.out; clear R17; obtain ⟨p17, k17, rfl, z1, z2⟩ := hb17.shape; clear z1 z2; have hD17 := hD.grew g17; have q17 := hD17.cell 8; have f17 := hD17.free 8))
  have hD5 := hD17.set (o := 8) (.slice p17 (cutL xs 20 N).length k17)
  have hb5 := (BufsKept.box (o := 8) hD17 (by simp [noU8]) (.slice p17 (cutL xs 20 N).length k17)) _ _ hb17
  have G5 := (G4.trans g17).setCell (b := D) (o := 8) hDw (.slice p17 (cutL xs 20 N).length k17)
  have hR5 := (hR4.grew g17).other (c := D) (o := 8) hRD (.slice p17 (cutL xs 20 N).length k17)
  clear hD17 hb17 g17 q17 f17 HS17 HE17 ge17 hD hR4 G4
  generalize x17.setCell ⟨D, 8, none⟩ (.slice p17 (cutL xs 20 N).length k17) = w5 at *
  replace hD5 : Blk w5 D #[.int .i64 t1, .int .i64 g4, .int .i64 ((X : Nat) / 8192), .int .i64 ((X : Nat) % 8192), .int .i64 t8, .int .i64 t9, .int .u32 g5, .int .u32 g6, .slice p17 (cutL xs 20 N).length k17, .slice none 0 0] 25 := hD5
  have HB5 := Lib.hid hb5
  clear hb5
  have ge18 : Grew w5 (w5.alloc (.cells #[] 5)) := (Grew.refl w5).alloc _
  have HE18 : Hid (Row (w5.alloc (.cells #[] 5)) w5.heap.size (.slice (some ⟨w5.heap.size, 0, none⟩) 0 0) []) := Lib.hid (Row.lit w5 w5.heap.size (Nat.le_refl _) #[] [] rfl (by unfold maxLen; simp) _ rfl 0 rfl)
  have HS18 := Lib.hid ((H8.out.grew G5).grew ge18)
  go_upto_region 19 with (first | (refine wpList_append_b (W := w5) rfl (.tmp 88) (.tmp 92) rfl ge18 HE18.out HS18.out (by rfl) (by rfl) HL8.out ?_; intro v18 x18 R18 g18 y18; clear y18; have hb18 := R18.out.buf HO8.out; clear R18; obtain ⟨p18, k18, rfl, z1, z2⟩ := hb18.shape; clear z1 z2; have hD18 := hD5.grew g18; have q18 := hD18.cell 9; have f18 := hD18.free 9))
  have hD6 := hD18.set (o := 9) (.slice p18 (cutL xs N M).length k18)
  have kk6 := (BufsKept.box (o := 9) hD18 (by simp [noU8]) (.slice p18 (cutL xs N M).length k18))
  have HB6 := Lib.hid (kk6 _ _ hb18)
  replace HB5 := Lib.hid (kk6 _ _ (HB5.out.grew g18))
  have G6 := (G5.trans g18).setCell (b := D) (o := 9) hDw (.slice p18 (cutL xs N M).length k18)
  have hR6 := (hR5.grew g18).other (c := D) (o := 9) hRD (.slice p18 (cutL xs N M).length k18)
  clear hD18 hb18 g18 q18 f18 HS18 HE18 ge18 hD5 hR5 G5 kk6
  generalize x18.setCell ⟨D, 9, none⟩ (.slice p18 (cutL xs N M).length k18) = w6 at *
  replace hD6 : Blk w6 D #[.int .i64 t1, .int .i64 g4, .int .i64 ((X : Nat) / 8192), .int .i64 ((X : Nat) % 8192), .int .i64 t8, .int .i64 t9, .int .u32 g5, .int .u32 g6, .slice p17 (cutL xs 20 N).length k17, .slice p18 (cutL xs N M).length k18] 25 := hD6
  go_wp2_with (first
    | (refine wpList_load_any rfl 25 (.tmp 7) rfl hD6 Tryd.underlying25 rfl ipInfo (by rfl) ?_)
    | (refine wpList_store_any rfl 25 (.tmp 2) (.tmp 95) rfl rfl (new := #[.int .i64 t1, .int .i64 g4, .int .i64 ((X : Nat) / 8192), .int .i64 ((X : Nat) % 8192), .int .i64 t8, .int .i64 t9, .int .u32 g5, .int .u32 g6, .slice p17 (cutL xs 20 N).length k17, .slice p18 (cutL xs N M).length k18]) hR6 ipInfo rfl (by simp [Value.oneCell']) (by simp [noU8]) (by rfl) (by rfl) ?_; intro w7 E t7 kk7; have GE := t7.grew G6 (by omega)))
  have z0 := E.cell 0
  have z1 := E.cell 1
  have z2 := E.cell 2
  have z3 := E.cell 3
  have z4 := E.cell 4
  have z5 := E.cell 5
  have z6 := E.cell 6
  have z7 := E.cell 7
  have z8 := E.cell 8
  have z9 := E.cell 9
  have hfr := Pk.of (kk7 _ _ HB5.out) (kk7 _ _ HB6.out) HI.out.1.1 HI.out.1.2.1 HI.out.1.2.2.1 HI.out.1.2.2.2 HI.out.2.1 HI.out.2.2.1 HI.out.2.2.2.1 HI.out.2.2.2.2
  rw [HF.out]
  exact bodyPost_ret (v := .tuple #[.agg #[.int .i64 t1, .int .i64 g4, .int .i64 ((X : Nat) / 8192), .int .i64 ((X : Nat) % 8192), .int .i64 t8, .int .i64 t9, .int .u32 g5, .int .u32 g6, .slice p17 (cutL xs 20 N).length k17, .slice p18 (cutL xs N M).length k18], .int .i64 0]) (by simp [results, Tryd.results11, go_sem, z0, z1, z2, z3, z4, z5, z6, z7, z8, z9]) rfl ⟨_, rfl, hfr, GE⟩
theorem refGet17_c {v : Value} {xs : List Int} {w : World} (hb : Buf w v xs) :
    Calls Tryd.prog 11 #[v] w fun e w' => ∃ u, e = .returned (.tuple #[u, .int .i64 (getPE xs)]) ∧ Pk w' u (getP xs) ∧ Grew w w' := by
  obtain ⟨a, c, rfl, _, _⟩ := hb.shape
  have zero : ∀ {k : Int}, getPE xs = k → k ≠ 0 → (Calls Tryd.prog 11 #[.slice a xs.length c] w fun e w' => ∃ u, e = .returned (.tuple #[u, .int .i64 k]) ∧ Pk w' u zP ∧ Grew w w') → Calls Tryd.prog 11 #[.slice a xs.length c] w fun e w' => ∃ u, e = .returned (.tuple #[u, .int .i64 (getPE xs)]) ∧ Pk w' u (getP xs) ∧ Grew w w' := fun hk h0 h => by
    unfold getP
    rw [hk, if_neg h0]
    exact h
  by_cases h0 : xs.length < 20
  · exact zero (k := 160) (by unfold getPE; rw [if_pos h0]) (by omega) (refGetP_short a _ c (by omega) w)
  · have hs : ¬ ((xs.length : Int) < 20) := by omega
    cases h1 : (xs.getD 0 0 / 16 != 4)
    · have h1' : xs.getD 0 0 / 16 = 4 := by simpa using h1
      by_cases h2 : hlV xs < 20
      · exact zero (k := 161) (by unfold getPE; rw [if_neg h0, if_pos (Or.inr h2)]) (by omega) (refGetP_1 a _ c xs hs hb h1 h2)
      · have hq : ¬ (xs.getD 0 0 / 16 ≠ 4 ∨ hlV xs < 20) := by omega
        by_cases h3 : xs.length < hlV xs
        · exact zero (k := 160) (by unfold getPE; rw [if_neg h0, if_neg hq, if_pos h3]) (by omega) (refGetP_2 a _ c xs hs hb h1 h2 h3)
        · by_cases h4 : sumV (cutL xs 0 (hlV xs)) = 0
          · by_cases h5 : alV xs < hlV xs
            · exact zero (k := 161) (by unfold getPE; rw [if_neg h0, if_neg hq, if_neg h3, if_neg (by omega), if_pos h5]) (by omega) (refGetP_4 a _ c xs hs hb h1 h2 h3 h4 h5)
            · by_cases h6 : xs.length < alV xs
              · exact zero (k := 160) (by unfold getPE; rw [if_neg h0, if_neg hq, if_neg h3, if_neg (by omega), if_neg h5, if_pos h6]) (by omega) (refGetP_5 a _ c xs hs hb h1 h2 h3 h4 h5 h6)
              · have hk : getPE xs = 0 := by unfold getPE; rw [if_neg h0, if_neg hq, if_neg h3, if_neg (by omega), if_neg h5, if_neg h6]
                unfold getP
                rw [hk, if_pos rfl]
                exact refGetP_6 a _ c xs hs hb h1 h2 h3 h4 h5 h6
          · exact zero (k := 162) (by unfold getPE; rw [if_neg h0, if_neg hq, if_neg h3, if_pos h4]) (by omega) (refGetP_3 a _ c xs hs hb h1 h2 h3 h4)
    · have h1' : ¬ xs.getD 0 0 / 16 = 4 := by simpa using h1
      exact zero (k := 161) (by unfold getPE; rw [if_neg h0, if_pos (Or.inl h1')]) (by omega) (refGetP_0 a _ c xs hs hb h1)
end Go.Proofs.YtalbdeifkbfnbaaDoor
