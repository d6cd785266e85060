/-
  Package ip: packet, Get, of all bytes.
-/
import Derived.Test.YtalbdeifkbfnbaaDoorIpC
import Derived.Test.YtalbdeifkbfnbaaDoorTri
import Derived.Test.YtalbdeifkbfnbaaDoorIpG
import Derived.Test.YtalbdeifkbfnbaaDoorClone
import Derived.Test.YtalbdeifkbfnbaaDoorDeps
set_option maxRecDepth 4000
set_option linter.unusedVariables false
set_option linter.unusedSimpArgs false
namespace Go.Proofs.YtalbdeifkbfnbaaDoor
open Go.RowKit

set_option maxHeartbeats 1000000 in
theorem packet_no {v : Value} {w : World} (k : Int) (hc : ∀ w', Grew w w' → Calls Tryd.prog 45 #[v] w' fun e w'' => ∃ n' s, e = .returned (.iface 74 (.agg #[.int .i64 k, .int .i64 n', .string s])) ∧ Grew w' w'') :
    Calls Tryd.prog 26 #[v] w fun e w' => ∃ u E, e = .returned (.tuple #[u, E]) ∧ (∃ n' s, E = .iface 74 (.agg #[.int .i64 k, .int .i64 n', .string s])) ∧ Pk w' u zP ∧ Grew w w' := by
  have HC := Lib.hid hc
  clear hc
  go_enter Tryd.func26, Tryd.ntmps26
  go_upto_region 1 with fail
  have hR : Blk (w.alloc (.cells #[.int .i64 0, .int .i64 0, .int .i64 0, .int .i64 0, .int .i64 0, .int .i64 0, .int .u32 0, .int .u32 0, .slice none 0 0, .slice none 0 0] 25)) w.heap.size #[.int .i64 0, .int .i64 0, .int .i64 0, .int .i64 0, .int .i64 0, .int .i64 0, .int .u32 0, .int .u32 0, .slice none 0 0, .slice none 0 0] 25 := Blk.new _ _ _ _ rfl
  have g0 : Grew w (w.alloc (.cells #[.int .i64 0, .int .i64 0, .int .i64 0, .int .i64 0, .int .i64 0, .int .i64 0, .int .u32 0, .int .u32 0, .slice none 0 0, .slice none 0 0] 25)) := (Grew.refl _).alloc _
  generalize (w.alloc (.cells #[.int .i64 0, .int .i64 0, .int .i64 0, .int .i64 0, .int .i64 0, .int .i64 0, .int .u32 0, .int .u32 0, .slice none 0 0, .slice none 0 0] 25)) = w0 at *
  generalize hlR : w.heap.size = R at *
  go_wp2_with fail
  refine (HC.out _ g0).mono ?_
  rintro e w1 ⟨n', s, rfl, g1⟩
  have hR1 := hR.grew g1
  have G1 := g0.trans g1
  have y0 := hR1.cell 0
  have y1 := hR1.cell 1
  have y2 := hR1.cell 2
  have y3 := hR1.cell 3
  have y4 := hR1.cell 4
  have y5 := hR1.cell 5
  have y6 := hR1.cell 6
  have y7 := hR1.cell 7
  have y8 := hR1.cell 8
  have y9 := hR1.cell 9
  have f0 := hR1.free 0
  have f1 := hR1.free 1
  have f2 := hR1.free 2
  have f3 := hR1.free 3
  have f4 := hR1.free 4
  have f5 := hR1.free 5
  have f6 := hR1.free 6
  have f7 := hR1.free 7
  have f8 := hR1.free 8
  have f9 := hR1.free 9
  go_wp2_with fail
  have E := ((((((((((hR1.set (o := 0) (.int .i64 0)).set (o := 1) (.int .i64 0)).set (o := 2) (.int .i64 0)).set (o := 3) (.int .i64 0)).set (o := 4) (.int .i64 0)).set (o := 5) (.int .i64 0)).set (o := 6) (.int .u32 0)).set (o := 7) (.int .u32 0)).set (o := 8) (.slice none 0 0)).set (o := 9) (.slice none 0 0))
  have GE := ((((((((((G1.setCell (b := R) (o := 0) (by omega) (.int .i64 0)).setCell (b := R) (o := 1) (by omega) (.int .i64 0)).setCell (b := R) (o := 2) (by omega) (.int .i64 0)).setCell (b := R) (o := 3) (by omega) (.int .i64 0)).setCell (b := R) (o := 4) (by omega) (.int .i64 0)).setCell (b := R) (o := 5) (by omega) (.int .i64 0)).setCell (b := R) (o := 6) (by omega) (.int .u32 0)).setCell (b := R) (o := 7) (by omega) (.int .u32 0)).setCell (b := R) (o := 8) (by omega) (.slice none 0 0)).setCell (b := R) (o := 9) (by omega) (.slice none 0 0))
  have z0 := E.cell 0
  have z1 := E.cell 1
  have z2 := E.cell 2
  have z3 := E.cell 3
  have z4 := E.cell 4
  have z5 := E.cell 5
  have z6 := E.cell 6
  have z7 := E.cell 7
  have z8 := E.cell 8
  have z9 := E.cell 9
  exact bodyPost_ret (v := .tuple #[.agg #[.int .i64 0, .int .i64 0, .int .i64 0, .int .i64 0, .int .i64 0, .int .i64 0, .int .u32 0, .int .u32 0, .slice none 0 0, .slice none 0 0], .iface 74 (.agg #[.int .i64 k, .int .i64 n', .string s])]) (by simp [results, Tryd.results26, go_sem, z0, z1, z2, z3, z4, z5, z6, z7, z8, z9]) rfl ⟨_, _, rfl, ⟨_, _, rfl⟩, Pk.zero _, GE⟩
/-- What the operations of a region give. -/
def rgPk (W : World) (ck off cap N M : Nat) (aO aD : Option Addr) (X : Nat) (t1 g4 t8 t9 g5 g6 : Int) : (Nat → Value) → Nat → Value → World → Prop
  | _, 0, v, _ => v = .slice (some ⟨ck, off, none⟩) M cap
  | _, 1, v, _ => v = .pointer (some ⟨ck, off + 1, none⟩)
  | _, 2, v, _ => v = .int .u8 t1
  | _, 3, v, _ => v = .int .i64 t1
  | _, 4, v, _ => v = .slice (some ⟨ck, off, none⟩) M cap
  | _, 5, v, _ => v = .int .i64 g4
  | _, 6, v, _ => v = .slice (some ⟨ck, off, none⟩) M cap
  | _, 7, v, _ => v = .int .i64 (X : Nat)
  | _, 8, v, _ => v = .int .i64 ((X : Nat) / 8192)
  | _, 9, v, _ => v = .slice (some ⟨ck, off, none⟩) M cap
  | _, 10, v, _ => v = .int .i64 (X : Nat)
  | _, 11, v, _ => v = .int .i64 ((X : Nat) % 8192)
  | _, 12, v, _ => v = .slice (some ⟨ck, off, none⟩) M cap
  | _, 13, v, _ => v = .pointer (some ⟨ck, off + 8, none⟩)
  | _, 14, v, _ => v = .int .u8 t8
  | _, 15, v, _ => v = .int .i64 t8
  | _, 16, v, _ => v = .slice (some ⟨ck, off, none⟩) M cap
  | _, 17, v, _ => v = .pointer (some ⟨ck, off + 9, none⟩)
  | _, 18, v, _ => v = .int .u8 t9
  | _, 19, v, _ => v = .int .i64 t9
  | _, 20, v, _ => v = .slice (some ⟨ck, off, none⟩) M cap
  | _, 21, v, _ => v = .int .u32 g5
  | _, 22, v, _ => v = .slice (some ⟨ck, off, none⟩) M cap
  | _, 23, v, _ => v = .int .u32 g6
  | _, 24, v, _ => v = .slice (some ⟨ck, off, none⟩) M cap
  | _, 25, v, _ => v = .int .i64 (N : Nat)
  | _, 26, v, _ => v = .int .i64 (N : Nat)
  | _, 27, v, _ => v = .slice aO (N - 20) (N - 20)
  | _, 28, v, _ => v = .slice (some ⟨ck, off, none⟩) M cap
  | _, 29, v, _ => v = .int .i64 (N : Nat)
  | _, 30, v, _ => v = .int .i64 (M : Nat)
  | _, 31, v, _ => v = .int .i64 (M : Nat)
  | _, 32, v, _ => v = .slice aD (M - N) (M - N)
  | _, 33, v, _ => v = .agg #[.int .i64 t1, .int .i64 g4, .int .i64 ((X : Nat) / 8192), .int .i64 ((X : Nat) % 8192), .int .i64 t8, .int .i64 t9, .int .u32 g5, .int .u32 g6, .slice aO (N - 20) (N - 20), .slice aD (M - N) (M - N)]
  | _, _, _, _ => True
theorem rgPk_grew {W : World} {ck off cap N M : Nat} {aO aD : Option Addr} {X : Nat} {t1 g4 t8 t9 g5 g6 : Int} : ∀ vs j v w w', Grew w w' → rgPk W ck off cap N M aO aD X t1 g4 t8 t9 g5 g6 vs j v w → rgPk W ck off cap N M aO aD X t1 g4 t8 t9 g5 g6 vs j v w'
  | _, 0, _, _, _, _, h => h
  | _, 1, _, _, _, _, h => h
  | _, 2, _, _, _, _, h => h
  | _, 3, _, _, _, _, h => h
  | _, 4, _, _, _, _, h => h
  | _, 5, _, _, _, _, h => h
  | _, 6, _, _, _, _, h => h
  | _, 7, _, _, _, _, h => h
  | _, 8, _, _, _, _, h => h
  | _, 9, _, _, _, _, h => h
  | _, 10, _, _, _, _, h => h
  | _, 11, _, _, _, _, h => h
  | _, 12, _, _, _, _, h => h
  | _, 13, _, _, _, _, h => h
  | _, 14, _, _, _, _, h => h
  | _, 15, _, _, _, _, h => h
  | _, 16, _, _, _, _, h => h
  | _, 17, _, _, _, _, h => h
  | _, 18, _, _, _, _, h => h
  | _, 19, _, _, _, _, h => h
  | _, 20, _, _, _, _, h => h
  | _, 21, _, _, _, _, h => h
  | _, 22, _, _, _, _, h => h
  | _, 23, _, _, _, _, h => h
  | _, 24, _, _, _, _, h => h
  | _, 25, _, _, _, _, h => h
  | _, 26, _, _, _, _, h => h
  | _, 27, _, _, _, _, h => h
  | _, 28, _, _, _, _, h => h
  | _, 29, _, _, _, _, h => h
  | _, 30, _, _, _, _, h => h
  | _, 31, _, _, _, _, h => h
  | _, 32, _, _, _, _, h => h
  | _, 33, _, _, _, _, h => h
  | _, _ + 34, _, _, _, _, _ => True.intro
theorem rgPk_lt {W : World} {ck off cap N M : Nat} {aO aD : Option Addr} {X : Nat} {t1 g4 t8 t9 g5 g6 : Int} : ∀ vs j v w, ([] : List Nat).contains j = true → rgPk W ck off cap N M aO aD X t1 g4 t8 t9 g5 g6 vs j v w → ∀ g, leadsTo v = some g → g < w.heap.size
  | _, 0, _, _, hc, _ => by simp at hc
  | _, 1, _, _, hc, _ => by simp at hc
  | _, 2, _, _, hc, _ => by simp at hc
  | _, 3, _, _, hc, _ => by simp at hc
  | _, 4, _, _, hc, _ => by simp at hc
  | _, 5, _, _, hc, _ => by simp at hc
  | _, 6, _, _, hc, _ => by simp at hc
  | _, 7, _, _, hc, _ => by simp at hc
  | _, 8, _, _, hc, _ => by simp at hc
  | _, 9, _, _, hc, _ => by simp at hc
  | _, 10, _, _, hc, _ => by simp at hc
  | _, 11, _, _, hc, _ => by simp at hc
  | _, 12, _, _, hc, _ => by simp at hc
  | _, 13, _, _, hc, _ => by simp at hc
  | _, 14, _, _, hc, _ => by simp at hc
  | _, 15, _, _, hc, _ => by simp at hc
  | _, 16, _, _, hc, _ => by simp at hc
  | _, 17, _, _, hc, _ => by simp at hc
  | _, 18, _, _, hc, _ => by simp at hc
  | _, 19, _, _, hc, _ => by simp at hc
  | _, 20, _, _, hc, _ => by simp at hc
  | _, 21, _, _, hc, _ => by simp at hc
  | _, 22, _, _, hc, _ => by simp at hc
  | _, 23, _, _, hc, _ => by simp at hc
  | _, 24, _, _, hc, _ => by simp at hc
  | _, 25, _, _, hc, _ => by simp at hc
  | _, 26, _, _, hc, _ => by simp at hc
  | _, 27, _, _, hc, _ => by simp at hc
  | _, 28, _, _, hc, _ => by simp at hc
  | _, 29, _, _, hc, _ => by simp at hc
  | _, 30, _, _, hc, _ => by simp at hc
  | _, 31, _, _, hc, _ => by simp at hc
  | _, 32, _, _, hc, _ => by simp at hc
  | _, 33, _, _, hc, _ => by simp at hc
  | _, _ + 34, _, _, hc, _ => by simp at hc
theorem rgPk_loc {W : World} {ck off cap N M : Nat} {aO aD : Option Addr} {X : Nat} {t1 g4 t8 t9 g5 g6 : Int} : ∀ (vs vs' : Nat → Value) j v w, (∀ k ∈ ([[], [], [], [], [], [], [], [], [], [], [], [], [], [], [], [], [], [], [], [], [], [], [], [], [], [], [], [], [], [], [], [], [], []] : List (List Nat)).getD j [], vs k = vs' k) → rgPk W ck off cap N M aO aD X t1 g4 t8 t9 g5 g6 vs j v w → rgPk W ck off cap N M aO aD X t1 g4 t8 t9 g5 g6 vs' j v w
  | _, _, 0, _, _, _, h => h
  | _, _, 1, _, _, _, h => h
  | _, _, 2, _, _, _, h => h
  | _, _, 3, _, _, _, h => h
  | _, _, 4, _, _, _, h => h
  | _, _, 5, _, _, _, h => h
  | _, _, 6, _, _, _, h => h
  | _, _, 7, _, _, _, h => h
  | _, _, 8, _, _, _, h => h
  | _, _, 9, _, _, _, h => h
  | _, _, 10, _, _, _, h => h
  | _, _, 11, _, _, _, h => h
  | _, _, 12, _, _, _, h => h
  | _, _, 13, _, _, _, h => h
  | _, _, 14, _, _, _, h => h
  | _, _, 15, _, _, _, h => h
  | _, _, 16, _, _, _, h => h
  | _, _, 17, _, _, _, h => h
  | _, _, 18, _, _, _, h => h
  | _, _, 19, _, _, _, h => h
  | _, _, 20, _, _, _, h => h
  | _, _, 21, _, _, _, h => h
  | _, _, 22, _, _, _, h => h
  | _, _, 23, _, _, _, h => h
  | _, _, 24, _, _, _, h => h
  | _, _, 25, _, _, _, h => h
  | _, _, 26, _, _, _, h => h
  | _, _, 27, _, _, _, h => h
  | _, _, 28, _, _, _, h => h
  | _, _, 29, _, _, _, h => h
  | _, _, 30, _, _, _, h => h
  | _, _, 31, _, _, _, h => h
  | _, _, 32, _, _, _, h => h
  | _, _, 33, _, _, _, h => h
  | _, _, _ + 34, _, _, _, _ => True.intro
set_option maxHeartbeats 4000000 in
theorem packet_yes (a : Option Addr) (n c : Nat) (xs : List Int) {w : World} (hb : Buf w (.slice a n c) xs) (hc : ∀ w', Grew w w' → Calls Tryd.prog 45 #[.slice a n c] w' fun e w'' => e = .returned .nilIface ∧ Grew w' w'') (h1 : ¬ hlV xs < 20) (h2 : ¬ xs.length < hlV xs) (h5 : ¬ alV xs < hlV xs) (h6 : ¬ xs.length < alV xs) :
    Calls Tryd.prog 26 #[.slice a n c] w fun e w' => ∃ u, e = .returned (.tuple #[u, .nilIface]) ∧ Pk w' u (pkOf xs) ∧ Grew w w' := by
  have hn := hb.lenEq.1
  have hm0 := getG_lt (hb.ok.cut 2 4) true (n := 2) (cutL_length (by omega) (by omega)) (by omega)
  rw [show (2 : Int) ^ (8 * 2) = 65536 by decide] at hm0
  have HMB := Lib.hid (show alV xs ≤ 65535 by unfold alV; omega)
  have HC := Lib.hid hc
  have HT := Lib.hid (fun w' (g : Grew w w') => headTold_c (by omega) w' (hb.grew g))
  have HP := Lib.hid (fun w' (g : Grew w w') => pairAt_c 2 2 4 rfl rfl (by omega) w' (hb.grew g))
  have hM : getV (cutL xs 2 4) true = ((alV xs : Nat) : Int) := by unfold alV; omega
  rw [hM] at HP
  clear hM hm0
  obtain ⟨a1, c1, H1, z1, z2, hrun, z4⟩ := hb.run_cut (lo := 0) (hi := alV xs) (by omega) (by omega)
  have r1 : ∀ w', (Instr.sliceAt 23 (.slice a n c) none (some (.int .i64 (alV xs : Nat))) none).run Tryd.prog w' = .ok (.slice a1 (alV xs) c1) w' := hrun rfl .i64
  clear z1 z2 hrun z4
  replace H1 : Hid (Buf w (.slice a1 (alV xs) c1) (cutL xs 0 (alV xs))) := Lib.hid (by simpa using H1)
  have hl1 : (cutL xs 0 (alV xs)).length = alV xs := by rw [cutL_length (by omega) (by omega)]; omega
  have HCL1 := Lib.hid (fun w' (g : Grew w w') => cloneB_c (by rw [hl1]; have := HMB.out; omega) (H1.out.grew g))
  have HF : Hid (pkOf xs = ⟨(cutL xs 0 (alV xs)).getD 1 0, getV (cutL (cutL xs 0 (alV xs)) 4 6) true, getV (cutL (cutL xs 0 (alV xs)) 6 8) true / 8192, getV (cutL (cutL xs 0 (alV xs)) 6 8) true % 8192, (cutL xs 0 (alV xs)).getD 8 0, (cutL xs 0 (alV xs)).getD 9 0, getV (cutL (cutL xs 0 (alV xs)) 12 16) true, getV (cutL (cutL xs 0 (alV xs)) 16 20) true, cutL (cutL xs 0 (alV xs)) 20 (hlV xs), cutL (cutL xs 0 (alV xs)) (hlV xs) (alV xs)⟩) := Lib.hid (by
    have e : ∀ {lo hi : Nat}, hi ≤ alV xs → cutL (cutL xs 0 (alV xs)) lo hi = cutL xs lo hi := fun h => by rw [cutL_zero, cutL_take h]
    have d : ∀ {k : Nat}, k < alV xs → (cutL xs 0 (alV xs)).getD k 0 = xs.getD k 0 := fun h => by rw [cutL_getD (by omega), Nat.zero_add]
    rw [e (by omega), e (by omega), e (by omega), e (by omega), e (by omega), e (by omega), d (by omega), d (by omega), d (by omega)]
    rfl)
  rw [hl1] at HCL1
  have k1 : ¬ (((hlV xs : Nat) : Int) < 20) := by omega
  have hMN : hlV xs ≤ alV xs := by omega
  generalize cutL xs 0 (alV xs) = ys at *
  generalize hlV xs = N at *
  generalize alV xs = M at *
  clear hb hn hc h2 h5 h6
  go_enter Tryd.func26, Tryd.ntmps26
  go_upto_region 1 with fail
  have hR : Blk (w.alloc (.cells #[.int .i64 0, .int .i64 0, .int .i64 0, .int .i64 0, .int .i64 0, .int .i64 0, .int .u32 0, .int .u32 0, .slice none 0 0, .slice none 0 0] 25)) w.heap.size #[.int .i64 0, .int .i64 0, .int .i64 0, .int .i64 0, .int .i64 0, .int .i64 0, .int .u32 0, .int .u32 0, .slice none 0 0, .slice none 0 0] 25 := Blk.new _ _ _ _ rfl
  have g0 : Grew w (w.alloc (.cells #[.int .i64 0, .int .i64 0, .int .i64 0, .int .i64 0, .int .i64 0, .int .i64 0, .int .u32 0, .int .u32 0, .slice none 0 0, .slice none 0 0] 25)) := (Grew.refl _).alloc _
  generalize (w.alloc (.cells #[.int .i64 0, .int .i64 0, .int .i64 0, .int .i64 0, .int .i64 0, .int .i64 0, .int .u32 0, .int .u32 0, .slice none 0 0, .slice none 0 0] 25)) = w0 at *
  generalize hlR : w.heap.size = R at *
  go_wp2_with fail
  refine (HC.out _ g0).mono ?_
  rintro e w1 ⟨rfl, g1⟩
  have hR1 := hR.grew g1
  have G1 := g0.trans g1
  go_wp2_with fail
  refine (HT.out _ G1).mono ?_
  rintro e wx ⟨rfl, h9⟩
  obtain rfl := h9.symm
  go_wp2_with fail
  refine (HP.out _ G1).mono ?_
  rintro e wx ⟨rfl, h9⟩
  obtain rfl := h9.symm
  go_wp2_with fail
  refine (HCL1.out _ G1).mono ?_
  rintro e w2 ⟨ao, cap, rfl, hrow, hbuf, g2⟩
  have G2 := G1.trans g2
  have hR2 := hR1.grew g2
  clear hrow hR hR1 g0 g1 G1 g2 HC HT HP HCL1 r1
  go_upto_region 6 with fail
  have hyl : M = ys.length := hbuf.lenEq.1
  have hyne : ys ≠ [] := by rintro rfl; simp at hyl; omega
  obtain ⟨_, _, ea, _, hat⟩ := hbuf.shape
  simp only [Value.slice.injEq] at ea
  obtain ⟨rfl, hn', rfl⟩ := ea
  clear hn'
  obtain ⟨ck, off, rfl, hat2⟩ := hat hyne
  have HCL := Lib.hid (hat2.lt hyne)
  have HC1 : Hid (w2.cell? ⟨ck, off + 1, none⟩ = some (.int .u8 (ys.getD 1 0))) := Lib.hid (hat2 1 (by omega))
  have HC8 : Hid (w2.cell? ⟨ck, off + 8, none⟩ = some (.int .u8 (ys.getD 8 0))) := Lib.hid (hat2 8 (by omega))
  have HC9 : Hid (w2.cell? ⟨ck, off + 9, none⟩ = some (.int .u8 (ys.getD 9 0))) := Lib.hid (hat2 9 (by omega))
  have hb1 := hbuf.ok.getD 1
  have hb8 := hbuf.ok.getD 8
  have hb9 := hbuf.ok.getD 9
  have HQ3 := Lib.hid (fun w' (g : Grew w2 w') => pairAt_c 6 6 8 rfl rfl (by omega) w' (hbuf.grew g))
  have HQ4 := Lib.hid (fun w' (g : Grew w2 w') => pairAt_c 4 4 6 rfl rfl (by omega) w' (hbuf.grew g))
  have HQ5 := Lib.hid (fun w' (g : Grew w2 w') => addressAt_c 12 12 16 rfl rfl (by omega) w' (hbuf.grew g))
  have HQ6 := Lib.hid (fun w' (g : Grew w2 w') => addressAt_c 16 16 20 rfl rfl (by omega) w' (hbuf.grew g))
  have hg3 := getG_lt (hbuf.ok.cut 6 8) true (n := 2) (cutL_length (by omega) (by omega)) (by omega)
  have hg4 := getG_lt (hbuf.ok.cut 4 6) true (n := 2) (cutL_length (by omega) (by omega)) (by omega)
  have hg5 := getG_lt (hbuf.ok.cut 12 16) true (n := 4) (cutL_length (by omega) (by omega)) (by omega)
  have hg6 := getG_lt (hbuf.ok.cut 16 20) true (n := 4) (cutL_length (by omega) (by omega)) (by omega)
  rw [show (2 : Int) ^ (8 * 2) = 65536 by decide] at hg3 hg4
  rw [show (2 : Int) ^ (8 * 4) = 4294967296 by decide] at hg5 hg6
  obtain ⟨aO, HBO, _, hrO⟩ := hbuf.run_cut3 (lo := 20) (hi := N) (by omega) (by omega)
  obtain ⟨aD, HBD, _, hrD⟩ := hbuf.run_cut3 (lo := N) (hi := M) (by omega) (by omega)
  have HRO := Lib.hid (fun w' => hrO .i64 .i64 .i64 w')
  have HRD := Lib.hid (fun w' => hrD .i64 .i64 .i64 w')
  replace HBO := Lib.hid HBO
  replace HBD := Lib.hid HBD
  obtain ⟨X, hX⟩ : ∃ X : Nat, getV (cutL ys 6 8) true = (X : Int) := ⟨(getV (cutL ys 6 8) true).toNat, by omega⟩
  rw [hX] at HQ3 HF hg3
  clear hX hrO hrD
  generalize ys.getD 1 0 = t1 at *
  generalize ys.getD 8 0 = t8 at *
  generalize ys.getD 9 0 = t9 at *
  generalize getV (cutL ys 4 6) true = g4 at *
  generalize getV (cutL ys 12 16) true = g5 at *
  generalize getV (cutL ys 16 20) true = g6 at *
  have EX1 := Lib.hid (show IntKind.i64.wrap ((X : Int) / 8192) = (X : Int) / 8192 from IntWalk.i64_in _ (by omega))
  have EX2 := Lib.hid (show bits .and .i64 (X : Int) 8191 = (X : Int) % 8192 from bits_mask .i64 62 (by decide) (fun n h0 h1 => IntWalk.i64_in n (by omega)) 13 (by decide) _ (by omega) (by omega))
  have Et1 := Lib.hid (show IntKind.i64.wrap t1 = t1 from IntWalk.i64_in _ (by omega))
  have Et8 := Lib.hid (show IntKind.i64.wrap t8 = t8 from IntWalk.i64_in _ (by omega))
  have Et9 := Lib.hid (show IntKind.i64.wrap t9 = t9 from IntWalk.i64_in _ (by omega))
  have HK20 := Lib.hid (show ((1 : Int) < (M : Nat)) ∧ ((8 : Int) < (M : Nat)) ∧ ((9 : Int) < (M : Nat)) by omega)
  have HI : Hid ((intI t1 ∧ intI g4 ∧ intI ((X : Int) / 8192) ∧ intI ((X : Int) % 8192)) ∧ (intI t8 ∧ intI t9 ∧ u32I g5 ∧ u32I g6)) := Lib.hid (by unfold intI u32I; omega)
  clear hb1 hb8 hb9 hg3 hg4 hg5 hg6 hat hat2 hyne hyl hbuf k1 hMN
  refine region_deps 34 [some 21, some 22, some 23, some 24, some 25, some 26, some 27, some 28, some 29, some 30, some 31, some 32, some 33, some 34, some 35, some 36, some 37, some 38, some 39, some 40, some 41, some 42, some 43, some 44, some 45, some 46, some 47, some 48, some 49, some 50, some 51, some 52, some 53, some 54] [[], [], [], [], [], [], [], [], [], [], [], [], [], [], [], [], [], [], [], [], [], [], [], [], [], [], [], [], [], [], [], [], [], []] [] (rgPk w2 ck off cap N M aO aD X t1 g4 t8 t9 g5 g6) rgPk_grew rgPk_lt rgPk_loc (Grew.refl w2) (by kernel_rfl) (by kernel_rfl) ?_ ?_
  · simp only [List.take_succ_cons, List.take_zero]
    refine GivesAll.cons (fun vs w1 g1 hd K hK => ?_) ?_
    · simp only [putsT, Nat.zero_add, Nat.reduceAdd, List.getD_cons_zero, List.getD_cons_succ, Act.put, List.setIfInBounds_toArray, List.set_cons_zero, List.set_cons_succ] at hK ⊢
      go_simp
      exact hK _ _ (Grew.refl _) rfl (fun h => by simp at h)
    refine GivesAll.cons (fun vs w1 g1 hd K hK => ?_) ?_
    · have e0 : vs 0 = .slice (some ⟨ck, off, none⟩) M cap := hd 0 (by kernel_rfl)
      simp only [putsT, Nat.zero_add, Nat.reduceAdd, List.getD_cons_zero, List.getD_cons_succ, Act.put, List.setIfInBounds_toArray, List.set_cons_zero, List.set_cons_succ, e0] at hK ⊢
      have hk0 := HK20.out
      go_simp
      exact hK _ _ (Grew.refl _) rfl (fun h => by simp at h)
    refine GivesAll.cons (fun vs w1 g1 hd K hK => ?_) ?_
    · have e1 : vs 1 = .pointer (some ⟨ck, off + 1, none⟩) := hd 1 (by kernel_rfl)
      simp only [putsT, Nat.zero_add, Nat.reduceAdd, List.getD_cons_zero, List.getD_cons_succ, Act.put, List.setIfInBounds_toArray, List.set_cons_zero, List.set_cons_succ, e1] at hK ⊢
      have z0 : w1.cell? ⟨ck, off + 1, none⟩ = some (.int .u8 t1) := by rw [(gcell g1).1 ck _ HCL.out]; exact HC1.out
      go_simp
      exact hK _ _ (Grew.refl _) rfl (fun h => by simp at h)
    refine GivesAll.cons (fun vs w1 g1 hd K hK => ?_) ?_
    · have e2 : vs 2 = .int .u8 t1 := hd 2 (by kernel_rfl)
      simp only [putsT, Nat.zero_add, Nat.reduceAdd, List.getD_cons_zero, List.getD_cons_succ, Act.put, List.setIfInBounds_toArray, List.set_cons_zero, List.set_cons_succ, e2] at hK ⊢
      have ew := Et1.out
      go_simp
      exact hK _ _ (Grew.refl _) rfl (fun h => by simp at h)
    refine GivesAll.cons (fun vs w1 g1 hd K hK => ?_) ?_
    · simp only [putsT, Nat.zero_add, Nat.reduceAdd, List.getD_cons_zero, List.getD_cons_succ, Act.put, List.setIfInBounds_toArray, List.set_cons_zero, List.set_cons_succ] at hK ⊢
      go_simp
      exact hK _ _ (Grew.refl _) rfl (fun h => by simp at h)
    refine GivesAll.cons (fun vs w1 g1 hd K hK => ?_) ?_
    · have e4 : vs 4 = .slice (some ⟨ck, off, none⟩) M cap := hd 4 (by kernel_rfl)
      simp only [putsT, Nat.zero_add, Nat.reduceAdd, List.getD_cons_zero, List.getD_cons_succ, Act.put, List.setIfInBounds_toArray, List.set_cons_zero, List.set_cons_succ, e4] at hK ⊢
      go_simp
      refine Calls.mono (HQ4.out w1 g1) ?_
      rintro e w5 ⟨rfl, h5⟩
      obtain rfl := h5.symm
      exact hK _ _ (Grew.refl _) rfl (fun h => by simp at h)
    refine GivesAll.cons (fun vs w1 g1 hd K hK => ?_) ?_
    · simp only [putsT, Nat.zero_add, Nat.reduceAdd, List.getD_cons_zero, List.getD_cons_succ, Act.put, List.setIfInBounds_toArray, List.set_cons_zero, List.set_cons_succ] at hK ⊢
      go_simp
      exact hK _ _ (Grew.refl _) rfl (fun h => by simp at h)
    refine GivesAll.cons (fun vs w1 g1 hd K hK => ?_) ?_
    · have e6 : vs 6 = .slice (some ⟨ck, off, none⟩) M cap := hd 6 (by kernel_rfl)
      simp only [putsT, Nat.zero_add, Nat.reduceAdd, List.getD_cons_zero, List.getD_cons_succ, Act.put, List.setIfInBounds_toArray, List.set_cons_zero, List.set_cons_succ, e6] at hK ⊢
      go_simp
      refine Calls.mono (HQ3.out w1 g1) ?_
      rintro e w5 ⟨rfl, h5⟩
      obtain rfl := h5.symm
      exact hK _ _ (Grew.refl _) rfl (fun h => by simp at h)
    refine GivesAll.cons (fun vs w1 g1 hd K hK => ?_) ?_
    · have e7 : vs 7 = .int .i64 (X : Nat) := hd 7 (by kernel_rfl)
      simp only [putsT, Nat.zero_add, Nat.reduceAdd, List.getD_cons_zero, List.getD_cons_succ, Act.put, List.setIfInBounds_toArray, List.set_cons_zero, List.set_cons_succ, e7] at hK ⊢
      have ew := EX1.out
      go_simp
      exact hK _ _ (Grew.refl _) rfl (fun h => by simp at h)
    refine GivesAll.cons (fun vs w1 g1 hd K hK => ?_) ?_
    · simp only [putsT, Nat.zero_add, Nat.reduceAdd, List.getD_cons_zero, List.getD_cons_succ, Act.put, List.setIfInBounds_toArray, List.set_cons_zero, List.set_cons_succ] at hK ⊢
      go_simp
      exact hK _ _ (Grew.refl _) rfl (fun h => by simp at h)
    refine GivesAll.cons (fun vs w1 g1 hd K hK => ?_) ?_
    · have e9 : vs 9 = .slice (some ⟨ck, off, none⟩) M cap := hd 9 (by kernel_rfl)
      simp only [putsT, Nat.zero_add, Nat.reduceAdd, List.getD_cons_zero, List.getD_cons_succ, Act.put, List.setIfInBounds_toArray, List.set_cons_zero, List.set_cons_succ, e9] at hK ⊢
      go_simp
      refine Calls.mono (HQ3.out w1 g1) ?_
      rintro e w5 ⟨rfl, h5⟩
      obtain rfl := h5.symm
      exact hK _ _ (Grew.refl _) rfl (fun h => by simp at h)
    refine GivesAll.cons (fun vs w1 g1 hd K hK => ?_) ?_
    · have e10 : vs 10 = .int .i64 (X : Nat) := hd 10 (by kernel_rfl)
      simp only [putsT, Nat.zero_add, Nat.reduceAdd, List.getD_cons_zero, List.getD_cons_succ, Act.put, List.setIfInBounds_toArray, List.set_cons_zero, List.set_cons_succ, e10] at hK ⊢
      have ew := EX2.out
      go_simp
      exact hK _ _ (Grew.refl _) rfl (fun h => by simp at h)
    refine GivesAll.cons (fun vs w1 g1 hd K hK => ?_) ?_
    · simp only [putsT, Nat.zero_add, Nat.reduceAdd, List.getD_cons_zero, List.getD_cons_succ, Act.put, List.setIfInBounds_toArray, List.set_cons_zero, List.set_cons_succ] at hK ⊢
      go_simp
      exact hK _ _ (Grew.refl _) rfl (fun h => by simp at h)
    refine GivesAll.cons (fun vs w1 g1 hd K hK => ?_) ?_
    · have e12 : vs 12 = .slice (some ⟨ck, off, none⟩) M cap := hd 12 (by kernel_rfl)
      simp only [putsT, Nat.zero_add, Nat.reduceAdd, List.getD_cons_zero, List.getD_cons_succ, Act.put, List.setIfInBounds_toArray, List.set_cons_zero, List.set_cons_succ, e12] at hK ⊢
      have hk0 := HK20.out
      go_simp
      exact hK _ _ (Grew.refl _) rfl (fun h => by simp at h)
    refine GivesAll.cons (fun vs w1 g1 hd K hK => ?_) ?_
    · have e13 : vs 13 = .pointer (some ⟨ck, off + 8, none⟩) := hd 13 (by kernel_rfl)
      simp only [putsT, Nat.zero_add, Nat.reduceAdd, List.getD_cons_zero, List.getD_cons_succ, Act.put, List.setIfInBounds_toArray, List.set_cons_zero, List.set_cons_succ, e13] at hK ⊢
      have z0 : w1.cell? ⟨ck, off + 8, none⟩ = some (.int .u8 t8) := by rw [(gcell g1).1 ck _ HCL.out]; exact HC8.out
      go_simp
      exact hK _ _ (Grew.refl _) rfl (fun h => by simp at h)
    refine GivesAll.cons (fun vs w1 g1 hd K hK => ?_) ?_
    · have e14 : vs 14 = .int .u8 t8 := hd 14 (by kernel_rfl)
      simp only [putsT, Nat.zero_add, Nat.reduceAdd, List.getD_cons_zero, List.getD_cons_succ, Act.put, List.setIfInBounds_toArray, List.set_cons_zero, List.set_cons_succ, e14] at hK ⊢
      have ew := Et8.out
      go_simp
      exact hK _ _ (Grew.refl _) rfl (fun h => by simp at h)
    refine GivesAll.cons (fun vs w1 g1 hd K hK => ?_) ?_
    · simp only [putsT, Nat.zero_add, Nat.reduceAdd, List.getD_cons_zero, List.getD_cons_succ, Act.put, List.setIfInBounds_toArray, List.set_cons_zero, List.set_cons_succ] at hK ⊢
      go_simp
      exact hK _ _ (Grew.refl _) rfl (fun h => by simp at h)
    refine GivesAll.cons (fun vs w1 g1 hd K hK => ?_) ?_
    · have e16 : vs 16 = .slice (some ⟨ck, off, none⟩) M cap := hd 16 (by kernel_rfl)
      simp only [putsT, Nat.zero_add, Nat.reduceAdd, List.getD_cons_zero, List.getD_cons_succ, Act.put, List.setIfInBounds_toArray, List.set_cons_zero, List.set_cons_succ, e16] at hK ⊢
      have hk0 := HK20.out
      go_simp
      exact hK _ _ (Grew.refl _) rfl (fun h => by simp at h)
    refine GivesAll.cons (fun vs w1 g1 hd K hK => ?_) ?_
    · have e17 : vs 17 = .pointer (some ⟨ck, off + 9, none⟩) := hd 17 (by kernel_rfl)
      simp only [putsT, Nat.zero_add, Nat.reduceAdd, List.getD_cons_zero, List.getD_cons_succ, Act.put, List.setIfInBounds_toArray, List.set_cons_zero, List.set_cons_succ, e17] at hK ⊢
      have z0 : w1.cell? ⟨ck, off + 9, none⟩ = some (.int .u8 t9) := by rw [(gcell g1).1 ck _ HCL.out]; exact HC9.out
      go_simp
      exact hK _ _ (Grew.refl _) rfl (fun h => by simp at h)
    refine GivesAll.cons (fun vs w1 g1 hd K hK => ?_) ?_
    · have e18 : vs 18 = .int .u8 t9 := hd 18 (by kernel_rfl)
      simp only [putsT, Nat.zero_add, Nat.reduceAdd, List.getD_cons_zero, List.getD_cons_succ, Act.put, List.setIfInBounds_toArray, List.set_cons_zero, List.set_cons_succ, e18] at hK ⊢
      have ew := Et9.out
      go_simp
      exact hK _ _ (Grew.refl _) rfl (fun h => by simp at h)
    refine GivesAll.cons (fun vs w1 g1 hd K hK => ?_) ?_
    · simp only [putsT, Nat.zero_add, Nat.reduceAdd, List.getD_cons_zero, List.getD_cons_succ, Act.put, List.setIfInBounds_toArray, List.set_cons_zero, List.set_cons_succ] at hK ⊢
      go_simp
      exact hK _ _ (Grew.refl _) rfl (fun h => by simp at h)
    refine GivesAll.cons (fun vs w1 g1 hd K hK => ?_) ?_
    · have e20 : vs 20 = .slice (some ⟨ck, off, none⟩) M cap := hd 20 (by kernel_rfl)
      simp only [putsT, Nat.zero_add, Nat.reduceAdd, List.getD_cons_zero, List.getD_cons_succ, Act.put, List.setIfInBounds_toArray, List.set_cons_zero, List.set_cons_succ, e20] at hK ⊢
      go_simp
      refine Calls.mono (HQ5.out w1 g1) ?_
      rintro e w5 ⟨rfl, h5⟩
      obtain rfl := h5.symm
      exact hK _ _ (Grew.refl _) rfl (fun h => by simp at h)
    refine GivesAll.cons (fun vs w1 g1 hd K hK => ?_) ?_
    · simp only [putsT, Nat.zero_add, Nat.reduceAdd, List.getD_cons_zero, List.getD_cons_succ, Act.put, List.setIfInBounds_toArray, List.set_cons_zero, List.set_cons_succ] at hK ⊢
      go_simp
      exact hK _ _ (Grew.refl _) rfl (fun h => by simp at h)
    refine GivesAll.cons (fun vs w1 g1 hd K hK => ?_) ?_
    · have e22 : vs 22 = .slice (some ⟨ck, off, none⟩) M cap := hd 22 (by kernel_rfl)
      simp only [putsT, Nat.zero_add, Nat.reduceAdd, List.getD_cons_zero, List.getD_cons_succ, Act.put, List.setIfInBounds_toArray, List.set_cons_zero, List.set_cons_succ, e22] at hK ⊢
      go_simp
      refine Calls.mono (HQ6.out w1 g1) ?_
      rintro e w5 ⟨rfl, h5⟩
      obtain rfl := h5.symm
      exact hK _ _ (Grew.refl _) rfl (fun h => by simp at h)
    refine GivesAll.cons (fun vs w1 g1 hd K hK => ?_) ?_
    · simp only [putsT, Nat.zero_add, Nat.reduceAdd, List.getD_cons_zero, List.getD_cons_succ, Act.put, List.setIfInBounds_toArray, List.set_cons_zero, List.set_cons_succ] at hK ⊢
      go_simp
      exact hK _ _ (Grew.refl _) rfl (fun h => by simp at h)
    refine GivesAll.cons (fun vs w1 g1 hd K hK => ?_) ?_
    · simp only [putsT, Nat.zero_add, Nat.reduceAdd, List.getD_cons_zero, List.getD_cons_succ, Act.put, List.setIfInBounds_toArray, List.set_cons_zero, List.set_cons_succ] at hK ⊢
      go_simp
      exact hK _ _ (Grew.refl _) rfl (fun h => by simp at h)
    refine GivesAll.cons (fun vs w1 g1 hd K hK => ?_) ?_
    · simp only [putsT, Nat.zero_add, Nat.reduceAdd, List.getD_cons_zero, List.getD_cons_succ, Act.put, List.setIfInBounds_toArray, List.set_cons_zero, List.set_cons_succ] at hK ⊢
      go_simp
      exact hK _ _ (Grew.refl _) rfl (fun h => by simp at h)
    refine GivesAll.cons (fun vs w1 g1 hd K hK => ?_) ?_
    · have e24 : vs 24 = .slice (some ⟨ck, off, none⟩) M cap := hd 24 (by kernel_rfl)
      have e25 : vs 25 = .int .i64 (N : Nat) := hd 25 (by kernel_rfl)
      have e26 : vs 26 = .int .i64 (N : Nat) := hd 26 (by kernel_rfl)
      simp only [putsT, Nat.zero_add, Nat.reduceAdd, List.getD_cons_zero, List.getD_cons_succ, Act.put, List.setIfInBounds_toArray, List.set_cons_zero, List.set_cons_succ, e24, e25, e26] at hK ⊢
      have r : ∀ w', (Instr.sliceAt 23 (.slice (some ⟨ck, off, none⟩) M cap) (some (.int .i64 20)) (some (.int .i64 (N : Nat))) (some (.int .i64 (N : Nat)))).run Tryd.prog w' = .ok (.slice aO (N - 20) (N - 20)) w' := HRO.out
      go_simp
      exact hK _ _ (Grew.refl _) rfl (fun h => by simp at h)
    refine GivesAll.cons (fun vs w1 g1 hd K hK => ?_) ?_
    · simp only [putsT, Nat.zero_add, Nat.reduceAdd, List.getD_cons_zero, List.getD_cons_succ, Act.put, List.setIfInBounds_toArray, List.set_cons_zero, List.set_cons_succ] at hK ⊢
      go_simp
      exact hK _ _ (Grew.refl _) rfl (fun h => by simp at h)
    refine GivesAll.cons (fun vs w1 g1 hd K hK => ?_) ?_
    · simp only [putsT, Nat.zero_add, Nat.reduceAdd, List.getD_cons_zero, List.getD_cons_succ, Act.put, List.setIfInBounds_toArray, List.set_cons_zero, List.set_cons_succ] at hK ⊢
      go_simp
      exact hK _ _ (Grew.refl _) rfl (fun h => by simp at h)
    refine GivesAll.cons (fun vs w1 g1 hd K hK => ?_) ?_
    · simp only [putsT, Nat.zero_add, Nat.reduceAdd, List.getD_cons_zero, List.getD_cons_succ, Act.put, List.setIfInBounds_toArray, List.set_cons_zero, List.set_cons_succ] at hK ⊢
      go_simp
      exact hK _ _ (Grew.refl _) rfl (fun h => by simp at h)
    refine GivesAll.cons (fun vs w1 g1 hd K hK => ?_) ?_
    · simp only [putsT, Nat.zero_add, Nat.reduceAdd, List.getD_cons_zero, List.getD_cons_succ, Act.put, List.setIfInBounds_toArray, List.set_cons_zero, List.set_cons_succ] at hK ⊢
      go_simp
      exact hK _ _ (Grew.refl _) rfl (fun h => by simp at h)
    refine GivesAll.cons (fun vs w1 g1 hd K hK => ?_) ?_
    · have e28 : vs 28 = .slice (some ⟨ck, off, none⟩) M cap := hd 28 (by kernel_rfl)
      have e29 : vs 29 = .int .i64 (N : Nat) := hd 29 (by kernel_rfl)
      have e30 : vs 30 = .int .i64 (M : Nat) := hd 30 (by kernel_rfl)
      have e31 : vs 31 = .int .i64 (M : Nat) := hd 31 (by kernel_rfl)
      simp only [putsT, Nat.zero_add, Nat.reduceAdd, List.getD_cons_zero, List.getD_cons_succ, Act.put, List.setIfInBounds_toArray, List.set_cons_zero, List.set_cons_succ, e28, e29, e30, e31] at hK ⊢
      have r := HRD.out
      go_simp
      exact hK _ _ (Grew.refl _) rfl (fun h => by simp at h)
    refine GivesAll.cons (fun vs w1 g1 hd K hK => ?_) ?_
    · have e3 : vs 3 = .int .i64 t1 := hd 3 (by kernel_rfl)
      have e5 : vs 5 = .int .i64 g4 := hd 5 (by kernel_rfl)
      have e8 : vs 8 = .int .i64 ((X : Nat) / 8192) := hd 8 (by kernel_rfl)
      have e11 : vs 11 = .int .i64 ((X : Nat) % 8192) := hd 11 (by kernel_rfl)
      have e15 : vs 15 = .int .i64 t8 := hd 15 (by kernel_rfl)
      have e19 : vs 19 = .int .i64 t9 := hd 19 (by kernel_rfl)
      have e21 : vs 21 = .int .u32 g5 := hd 21 (by kernel_rfl)
      have e23 : vs 23 = .int .u32 g6 := hd 23 (by kernel_rfl)
      have e27 : vs 27 = .slice aO (N - 20) (N - 20) := hd 27 (by kernel_rfl)
      have e32 : vs 32 = .slice aD (M - N) (M - N) := hd 32 (by kernel_rfl)
      simp only [putsT, Nat.zero_add, Nat.reduceAdd, List.getD_cons_zero, List.getD_cons_succ, Act.put, List.setIfInBounds_toArray, List.set_cons_zero, List.set_cons_succ, e3, e5, e8, e11, e15, e19, e21, e23, e27, e32] at hK ⊢
      go_simp
      exact hK _ _ (Grew.refl _) rfl (fun h => by simp at h)
    exact GivesAll.nil
  intro vs wz gz hv hap
  have e0 : vs 0 = .slice (some ⟨ck, off, none⟩) M cap := hv 0 (by decide)
  have e1 : vs 1 = .pointer (some ⟨ck, off + 1, none⟩) := hv 1 (by decide)
  have e2 : vs 2 = .int .u8 t1 := hv 2 (by decide)
  have e3 : vs 3 = .int .i64 t1 := hv 3 (by decide)
  have e4 : vs 4 = .slice (some ⟨ck, off, none⟩) M cap := hv 4 (by decide)
  have e5 : vs 5 = .int .i64 g4 := hv 5 (by decide)
  have e6 : vs 6 = .slice (some ⟨ck, off, none⟩) M cap := hv 6 (by decide)
  have e7 : vs 7 = .int .i64 (X : Nat) := hv 7 (by decide)
  have e8 : vs 8 = .int .i64 ((X : Nat) / 8192) := hv 8 (by decide)
  have e9 : vs 9 = .slice (some ⟨ck, off, none⟩) M cap := hv 9 (by decide)
  have e10 : vs 10 = .int .i64 (X : Nat) := hv 10 (by decide)
  have e11 : vs 11 = .int .i64 ((X : Nat) % 8192) := hv 11 (by decide)
  have e12 : vs 12 = .slice (some ⟨ck, off, none⟩) M cap := hv 12 (by decide)
  have e13 : vs 13 = .pointer (some ⟨ck, off + 8, none⟩) := hv 13 (by decide)
  have e14 : vs 14 = .int .u8 t8 := hv 14 (by decide)
  have e15 : vs 15 = .int .i64 t8 := hv 15 (by decide)
  have e16 : vs 16 = .slice (some ⟨ck, off, none⟩) M cap := hv 16 (by decide)
  have e17 : vs 17 = .pointer (some ⟨ck, off + 9, none⟩) := hv 17 (by decide)
  have e18 : vs 18 = .int .u8 t9 := hv 18 (by decide)
  have e19 : vs 19 = .int .i64 t9 := hv 19 (by decide)
  have e20 : vs 20 = .slice (some ⟨ck, off, none⟩) M cap := hv 20 (by decide)
  have e21 : vs 21 = .int .u32 g5 := hv 21 (by decide)
  have e22 : vs 22 = .slice (some ⟨ck, off, none⟩) M cap := hv 22 (by decide)
  have e23 : vs 23 = .int .u32 g6 := hv 23 (by decide)
  have e24 : vs 24 = .slice (some ⟨ck, off, none⟩) M cap := hv 24 (by decide)
  have e25 : vs 25 = .int .i64 (N : Nat) := hv 25 (by decide)
  have e26 : vs 26 = .int .i64 (N : Nat) := hv 26 (by decide)
  have e27 : vs 27 = .slice aO (N - 20) (N - 20) := hv 27 (by decide)
  have e28 : vs 28 = .slice (some ⟨ck, off, none⟩) M cap := hv 28 (by decide)
  have e29 : vs 29 = .int .i64 (N : Nat) := hv 29 (by decide)
  have e30 : vs 30 = .int .i64 (M : Nat) := hv 30 (by decide)
  have e31 : vs 31 = .int .i64 (M : Nat) := hv 31 (by decide)
  have e32 : vs 32 = .slice aD (M - N) (M - N) := hv 32 (by decide)
  have e33 : vs 33 = .agg #[.int .i64 t1, .int .i64 g4, .int .i64 ((X : Nat) / 8192), .int .i64 ((X : Nat) % 8192), .int .i64 t8, .int .i64 t9, .int .u32 g5, .int .u32 g6, .slice aO (N - 20) (N - 20), .slice aD (M - N) (M - N)] := hv 33 (by decide)
  clear hv hap
  simp only [putsT, Nat.zero_add, Nat.reduceAdd, List.getD_cons_zero, List.getD_cons_succ, Act.put, List.setIfInBounds_toArray, List.set_cons_zero, List.set_cons_succ, List.drop_succ_cons, List.drop_zero, e0, e1, e2, e3, e4, e5, e6, e7, e8, e9, e10, e11, e12, e13, e14, e15, e16, e17, e18, e19, e20, e21, e22, e23, e24, e25, e26, e27, e28, e29, e30, e31, e32, e33]
  clear e0 e1 e2 e3 e4 e5 e6 e7 e8 e9 e10 e11 e12 e13 e14 e15 e16 e17 e18 e19 e20 e21 e22 e23 e24 e25 e26 e27 e28 e29 e30 e31 e32 e33
  have hRz := hR2.grew gz
  have Gz := G2.trans gz
  refine wpList_store_any rfl 25 (.tmp 2) (.tmp 54) rfl rfl (new := #[.int .i64 t1, .int .i64 g4, .int .i64 ((X : Nat) / 8192), .int .i64 ((X : Nat) % 8192), .int .i64 t8, .int .i64 t9, .int .u32 g5, .int .u32 g6, .slice aO (N - 20) (N - 20), .slice aD (M - N) (M - N)]) hRz ipInfo rfl (by simp [Value.oneCell']) (by simp [noU8]) (by rfl) (by rfl) ?_
  intro w4 E t4 kk4
  have GE := t4.grew Gz (by omega)
  have z0 := E.cell 0
  have z1 := E.cell 1
  have z2 := E.cell 2
  have z3 := E.cell 3
  have z4 := E.cell 4
  have z5 := E.cell 5
  have z6 := E.cell 6
  have z7 := E.cell 7
  have z8 := E.cell 8
  have z9 := E.cell 9
  have hfr := Pk.of (kk4 _ _ (HBO.out.grew gz)) (kk4 _ _ (HBD.out.grew gz)) HI.out.1.1 HI.out.1.2.1 HI.out.1.2.2.1 HI.out.1.2.2.2 HI.out.2.1 HI.out.2.2.1 HI.out.2.2.2.1 HI.out.2.2.2.2
  go_wp2_with fail
  rw [HF.out]
  exact bodyPost_ret (v := .tuple #[.agg #[.int .i64 t1, .int .i64 g4, .int .i64 ((X : Nat) / 8192), .int .i64 ((X : Nat) % 8192), .int .i64 t8, .int .i64 t9, .int .u32 g5, .int .u32 g6, .slice aO (N - 20) (N - 20), .slice aD (M - N) (M - N)], .nilIface]) (by simp [results, Tryd.results26, go_sem, z0, z1, z2, z3, z4, z5, z6, z7, z8, z9]) rfl ⟨_, rfl, hfr, GE⟩
set_option maxHeartbeats 2000000 in
theorem get_with {v : Value} {P : Value → Prop} {f : PK} (q : Int) {w : World}
    (HF : ∀ w', Grew w w' → Calls Tryd.prog 26 #[v] w' fun e w'' => ∃ u E, e = .returned (.tuple #[u, E]) ∧ P E ∧ Pk w'' u f ∧ Grew w' w'')
    (HNb : ∀ w' E, P E → Grew w w' → Calls Tryd.prog 27 #[E] w' fun e w'' => e = .returned (.int .i64 q) ∧ Grew w' w'') :
    Calls Tryd.prog 10 #[v] w fun e w' => ∃ u, e = .returned (.tuple #[u, .int .i64 q]) ∧ Pk w' u f ∧ Grew w w' := by
  replace HF := Lib.hid HF
  have HNB := Lib.hid HNb
  clear HNb
  go_enter Tryd.func10, Tryd.ntmps10
  go_upto_region 1 with fail
  have hR : Blk (w.alloc (.cells #[.int .i64 0, .int .i64 0, .int .i64 0, .int .i64 0, .int .i64 0, .int .i64 0, .int .u32 0, .int .u32 0, .slice none 0 0, .slice none 0 0] 25)) w.heap.size #[.int .i64 0, .int .i64 0, .int .i64 0, .int .i64 0, .int .i64 0, .int .i64 0, .int .u32 0, .int .u32 0, .slice none 0 0, .slice none 0 0] 25 := Blk.new _ _ _ _ rfl
  have g0 : Grew w (w.alloc (.cells #[.int .i64 0, .int .i64 0, .int .i64 0, .int .i64 0, .int .i64 0, .int .i64 0, .int .u32 0, .int .u32 0, .slice none 0 0, .slice none 0 0] 25)) := (Grew.refl _).alloc _
  generalize (w.alloc (.cells #[.int .i64 0, .int .i64 0, .int .i64 0, .int .i64 0, .int .i64 0, .int .i64 0, .int .u32 0, .int .u32 0, .slice none 0 0, .slice none 0 0] 25)) = w0 at *
  generalize hlR : w.heap.size = R at *
  go_wp2_with fail
  refine (HF.out _ g0).mono ?_
  rintro e w1 ⟨u, E, rfl, hP, hu, g1⟩
  replace HNB := Lib.hid (fun w' g => HNB.out w' E hP g)
  clear hP
  have HU := Lib.hid hu
  have hu' := hu
  obtain ⟨p1, k1, p2, k2, rfl, b1, b2⟩ := hu'.shape
  have hR1 := hR.grew g1
  have G1 := g0.trans g1
  have hRl := hR1.lt
  clear hu b1 b2
  go_upto_region 2 with fail
  have hR2 := hR1.alloc (.cells #[.int .i64 f.tos, .int .i64 f.id, .int .i64 f.fl, .int .i64 f.off, .int .i64 f.ttl, .int .i64 f.pr, .int .u32 f.si, .int .u32 f.di, .slice p1 f.o.length k1, .slice p2 f.x.length k2] 25)
  have hDR : w1.heap.size ≠ R := Nat.ne_of_gt hRl
  have hU2 := HU.out.grew ((Grew.refl w1).alloc (.cells #[.int .i64 f.tos, .int .i64 f.id, .int .i64 f.fl, .int .i64 f.off, .int .i64 f.ttl, .int .i64 f.pr, .int .u32 f.si, .int .u32 f.di, .slice p1 f.o.length k1, .slice p2 f.x.length k2] 25))
  have hD2 : Blk (w1.alloc (.cells #[.int .i64 f.tos, .int .i64 f.id, .int .i64 f.fl, .int .i64 f.off, .int .i64 f.ttl, .int .i64 f.pr, .int .u32 f.si, .int .u32 f.di, .slice p1 f.o.length k1, .slice p2 f.x.length k2] 25)) w1.heap.size #[.int .i64 f.tos, .int .i64 f.id, .int .i64 f.fl, .int .i64 f.off, .int .i64 f.ttl, .int .i64 f.pr, .int .u32 f.si, .int .u32 f.di, .slice p1 f.o.length k1, .slice p2 f.x.length k2] 25 := Blk.new _ _ _ _ rfl
  have g2 : Grew w1 (w1.alloc (.cells #[.int .i64 f.tos, .int .i64 f.id, .int .i64 f.fl, .int .i64 f.off, .int .i64 f.ttl, .int .i64 f.pr, .int .u32 f.si, .int .u32 f.di, .slice p1 f.o.length k1, .slice p2 f.x.length k2] 25)) := (Grew.refl _).alloc _
  generalize (w1.alloc (.cells #[.int .i64 f.tos, .int .i64 f.id, .int .i64 f.fl, .int .i64 f.off, .int .i64 f.ttl, .int .i64 f.pr, .int .u32 f.si, .int .u32 f.di, .slice p1 f.o.length k1, .slice p2 f.x.length k2] 25)) = w2 at *
  generalize hlD : w1.heap.size = D at *
  have G2 := G1.trans g2
  have HU2 := Lib.hid (hU2.grew ((Grew.refl w2).drew1))
  have G2q := G2.drew1
  have hR2q := hR2.drew
  have hD2q := hD2.drew
  clear hU2 G2 hR2 hD2 g2
  refine wp_region_held_drew (S := fun w' => Blk w' D #[.int .i64 f.tos, .int .i64 f.id, .int .i64 f.fl, .int .i64 f.off, .int .i64 f.ttl, .int .i64 f.pr, .int .u32 f.si, .int .u32 f.di, .slice p1 f.o.length k1, .slice p2 f.x.length k2] 25) (by kernel_rfl) (by exact hD2q) (fun hHeld => ?_)
  replace hHeld : Blk w2.drew D #[.int .i64 f.tos, .int .i64 f.id, .int .i64 f.fl, .int .i64 f.off, .int .i64 f.ttl, .int .i64 f.pr, .int .u32 f.si, .int .u32 f.di, .slice p1 f.o.length k1, .slice p2 f.x.length k2] 25 := hHeld
  generalize w2.drew = wq0 at *
  refine wpAnyH_take (i := 0) (v := ?_) rfl (by kernel_rfl) (by kernel_rfl) (by kernel_rfl) (fun _ _ _ h => h) (Or.inl ⟨by rfl, ?_⟩) hHeld ?_
  rotate_left
  · intro wq hSw
    replace hSw : Blk wq D #[.int .i64 f.tos, .int .i64 f.id, .int .i64 f.fl, .int .i64 f.off, .int .i64 f.ttl, .int .i64 f.pr, .int .u32 f.si, .int .u32 f.di, .slice p1 f.o.length k1, .slice p2 f.x.length k2] 25 := hSw
    have y0 := hSw.cell 0
    have y1 := hSw.cell 1
    have y2 := hSw.cell 2
    have y3 := hSw.cell 3
    have y4 := hSw.cell 4
    have y5 := hSw.cell 5
    have y6 := hSw.cell 6
    have y7 := hSw.cell 7
    have y8 := hSw.cell 8
    have y9 := hSw.cell 9
    go_simp
    try with_reducible rfl
  try simp only [List.getElem_toArray, List.getElem_cons_succ, List.getElem_cons_zero, Act.put, List.setIfInBounds_toArray, List.set_cons_zero, List.set_cons_succ]
  refine wpAnyH_take (i := 1) (v := ?_) rfl (by kernel_rfl) (by kernel_rfl) (by kernel_rfl) (fun _ _ _ h => h) (Or.inl ⟨by rfl, ?_⟩) hHeld ?_
  rotate_left
  · intro wq hSw
    replace hSw : Blk wq D #[.int .i64 f.tos, .int .i64 f.id, .int .i64 f.fl, .int .i64 f.off, .int .i64 f.ttl, .int .i64 f.pr, .int .u32 f.si, .int .u32 f.di, .slice p1 f.o.length k1, .slice p2 f.x.length k2] 25 := hSw
    go_simp
    try with_reducible rfl
  try simp only [List.getElem_toArray, List.getElem_cons_succ, List.getElem_cons_zero, Act.put, List.setIfInBounds_toArray, List.set_cons_zero, List.set_cons_succ]
  refine wpAnyH_ready (rs := [2]) (by kernel_rfl) (by simp) ?_
  refine AllReadyH.cons rfl (fun K hK => ?_) AllReadyH.nil
  go_simp
  refine (HNB.out _ G2q).mono ?_
  rintro e w3 ⟨rfl, g3⟩
  have G3 := G2q.trans g3
  have hR3 := hR2q.grew g3
  have hD3 := hD2q.grew g3
  have b3 := g3
  have f0 := hR3.free 0
  have f1 := hR3.free 1
  have f2 := hR3.free 2
  have f3 := hR3.free 3
  have f4 := hR3.free 4
  have f5 := hR3.free 5
  have f6 := hR3.free 6
  have f7 := hR3.free 7
  have f8 := hR3.free 8
  have f9 := hR3.free 9
  have x0 := hR3.cell 0
  have x1 := hR3.cell 1
  have x2 := hR3.cell 2
  have x3 := hR3.cell 3
  have x4 := hR3.cell 4
  have x5 := hR3.cell 5
  have x6 := hR3.cell 6
  have x7 := hR3.cell 7
  have x8 := hR3.cell 8
  have x9 := hR3.cell 9
  refine hK.out _ _ (hD3) (fun hHeld => ?_)
  clear hK K
  try simp only [List.getElem_toArray, List.getElem_cons_succ, List.getElem_cons_zero, Act.put, List.setIfInBounds_toArray, List.set_cons_zero, List.set_cons_succ]
  refine wpAnyH_ready (rs := [3]) (by kernel_rfl) (by simp) ?_
  refine AllReadyH.cons rfl (fun K hK => ?_) AllReadyH.nil
  go_simp
  refine hK.out _ _ (((((((((((hD3.other (c := R) (o := 0) hDR (.int .i64 f.tos)).other (c := R) (o := 1) hDR (.int .i64 f.id)).other (c := R) (o := 2) hDR (.int .i64 f.fl)).other (c := R) (o := 3) hDR (.int .i64 f.off)).other (c := R) (o := 4) hDR (.int .i64 f.ttl)).other (c := R) (o := 5) hDR (.int .i64 f.pr)).other (c := R) (o := 6) hDR (.int .u32 f.si)).other (c := R) (o := 7) hDR (.int .u32 f.di)).other (c := R) (o := 8) hDR (.slice p1 f.o.length k1)).other (c := R) (o := 9) hDR (.slice p2 f.x.length k2))) (fun hHeld => ?_)
  clear hK K
  try simp only [List.getElem_toArray, List.getElem_cons_succ, List.getElem_cons_zero, Act.put, List.setIfInBounds_toArray, List.set_cons_zero, List.set_cons_succ]
  refine wpAnyH_ready (rs := [4]) (by kernel_rfl) (by simp) ?_
  refine AllReadyH.cons rfl (fun K hK => ?_) AllReadyH.nil
  go_simp
  refine hK.out _ _ hHeld (fun hHeld => ?_)
  clear hK K
  try simp only [List.getElem_toArray, List.getElem_cons_succ, List.getElem_cons_zero, Act.put, List.setIfInBounds_toArray, List.set_cons_zero, List.set_cons_succ]
  refine wpAnyH_done (by kernel_rfl) ?_ _
  try simp only [List.getElem_toArray, List.getElem_cons_succ, List.getElem_cons_zero, Act.put, List.setIfInBounds_toArray, List.set_cons_zero, List.set_cons_succ]
  go_wp2_with fail
  have EB := ((((((((((hR3.set (o := 0) (.int .i64 f.tos)).set (o := 1) (.int .i64 f.id)).set (o := 2) (.int .i64 f.fl)).set (o := 3) (.int .i64 f.off)).set (o := 4) (.int .i64 f.ttl)).set (o := 5) (.int .i64 f.pr)).set (o := 6) (.int .u32 f.si)).set (o := 7) (.int .u32 f.di)).set (o := 8) (.slice p1 f.o.length k1)).set (o := 9) (.slice p2 f.x.length k2))
  have KK := ((((((((((BufsKept.box (o := 0) hR3 (by simp [noU8]) (.int .i64 f.tos)).trans (BufsKept.box (o := 1) (hR3.set (o := 0) (.int .i64 f.tos)) (by simp [noU8]) (.int .i64 f.id))).trans (BufsKept.box (o := 2) ((hR3.set (o := 0) (.int .i64 f.tos)).set (o := 1) (.int .i64 f.id)) (by simp [noU8]) (.int .i64 f.fl))).trans (BufsKept.box (o := 3) (((hR3.set (o := 0) (.int .i64 f.tos)).set (o := 1) (.int .i64 f.id)).set (o := 2) (.int .i64 f.fl)) (by simp [noU8]) (.int .i64 f.off))).trans (BufsKept.box (o := 4) ((((hR3.set (o := 0) (.int .i64 f.tos)).set (o := 1) (.int .i64 f.id)).set (o := 2) (.int .i64 f.fl)).set (o := 3) (.int .i64 f.off)) (by simp [noU8]) (.int .i64 f.ttl))).trans (BufsKept.box (o := 5) (((((hR3.set (o := 0) (.int .i64 f.tos)).set (o := 1) (.int .i64 f.id)).set (o := 2) (.int .i64 f.fl)).set (o := 3) (.int .i64 f.off)).set (o := 4) (.int .i64 f.ttl)) (by simp [noU8]) (.int .i64 f.pr))).trans (BufsKept.box (o := 6) ((((((hR3.set (o := 0) (.int .i64 f.tos)).set (o := 1) (.int .i64 f.id)).set (o := 2) (.int .i64 f.fl)).set (o := 3) (.int .i64 f.off)).set (o := 4) (.int .i64 f.ttl)).set (o := 5) (.int .i64 f.pr)) (by simp [noU8]) (.int .u32 f.si))).trans (BufsKept.box (o := 7) (((((((hR3.set (o := 0) (.int .i64 f.tos)).set (o := 1) (.int .i64 f.id)).set (o := 2) (.int .i64 f.fl)).set (o := 3) (.int .i64 f.off)).set (o := 4) (.int .i64 f.ttl)).set (o := 5) (.int .i64 f.pr)).set (o := 6) (.int .u32 f.si)) (by simp [noU8]) (.int .u32 f.di))).trans (BufsKept.box (o := 8) ((((((((hR3.set (o := 0) (.int .i64 f.tos)).set (o := 1) (.int .i64 f.id)).set (o := 2) (.int .i64 f.fl)).set (o := 3) (.int .i64 f.off)).set (o := 4) (.int .i64 f.ttl)).set (o := 5) (.int .i64 f.pr)).set (o := 6) (.int .u32 f.si)).set (o := 7) (.int .u32 f.di)) (by simp [noU8]) (.slice p1 f.o.length k1))).trans (BufsKept.box (o := 9) (((((((((hR3.set (o := 0) (.int .i64 f.tos)).set (o := 1) (.int .i64 f.id)).set (o := 2) (.int .i64 f.fl)).set (o := 3) (.int .i64 f.off)).set (o := 4) (.int .i64 f.ttl)).set (o := 5) (.int .i64 f.pr)).set (o := 6) (.int .u32 f.si)).set (o := 7) (.int .u32 f.di)).set (o := 8) (.slice p1 f.o.length k1)) (by simp [noU8]) (.slice p2 f.x.length k2)))
  have GE := ((((((((((G3.setCell (b := R) (o := 0) (by have := g0.size; omega) (.int .i64 f.tos)).setCell (b := R) (o := 1) (by have := g0.size; omega) (.int .i64 f.id)).setCell (b := R) (o := 2) (by have := g0.size; omega) (.int .i64 f.fl)).setCell (b := R) (o := 3) (by have := g0.size; omega) (.int .i64 f.off)).setCell (b := R) (o := 4) (by have := g0.size; omega) (.int .i64 f.ttl)).setCell (b := R) (o := 5) (by have := g0.size; omega) (.int .i64 f.pr)).setCell (b := R) (o := 6) (by have := g0.size; omega) (.int .u32 f.si)).setCell (b := R) (o := 7) (by have := g0.size; omega) (.int .u32 f.di)).setCell (b := R) (o := 8) (by have := g0.size; omega) (.slice p1 f.o.length k1)).setCell (b := R) (o := 9) (by have := g0.size; omega) (.slice p2 f.x.length k2))
  have z0 := EB.cell 0
  have z1 := EB.cell 1
  have z2 := EB.cell 2
  have z3 := EB.cell 3
  have z4 := EB.cell 4
  have z5 := EB.cell 5
  have z6 := EB.cell 6
  have z7 := EB.cell 7
  have z8 := EB.cell 8
  have z9 := EB.cell 9
  exact bodyPost_ret (v := .tuple #[.agg #[.int .i64 f.tos, .int .i64 f.id, .int .i64 f.fl, .int .i64 f.off, .int .i64 f.ttl, .int .i64 f.pr, .int .u32 f.si, .int .u32 f.di, .slice p1 f.o.length k1, .slice p2 f.x.length k2], .int .i64 q]) (by simp [results, Tryd.results10, go_sem, z0, z1, z2, z3, z4, z5, z6, z7, z8, z9]) rfl ⟨_, rfl, ((HU2.out.grew b3).kept KK), GE⟩
theorem Get17_c {v : Value} {xs : List Int} {w : World} (sn : SenW w) (hb : Buf w v xs) :
    Calls Tryd.prog 10 #[v] w fun e w' => ∃ u, e = .returned (.tuple #[u, .int .i64 (getPE xs)]) ∧ Pk w' u (getP xs) ∧ Grew w w' := by
  have hc := fun w' (g : Grew w w') => check_c (hb.grew g)
  by_cases h : getPE xs = 0
  · have hp : getP xs = pkOf xs := by unfold getP; rw [if_pos h]
    rw [hp, h]
    obtain ⟨a, c, rfl, _, _⟩ := hb.shape
    have hq : 20 ≤ xs.length ∧ 20 ≤ hlV xs ∧ hlV xs ≤ xs.length ∧ hlV xs ≤ alV xs ∧ alV xs ≤ xs.length := by
      unfold getPE at h
      repeat' split at h
      all_goals omega
    refine get_with (f := pkOf xs) (P := fun E => E = .nilIface) 0 (fun w' g => (packet_yes a _ c xs (hb.grew g) (fun w'' g2 => (hc w'' (g.trans g2)).mono ?_) (by omega) (by omega) (by omega) (by omega)).mono ?_) (fun w' E hE g => by subst hE; exact number_nil w')
    · rintro e w3 ⟨u, he, ⟨_, rfl⟩ | ⟨h0, _⟩, g3⟩
      · exact ⟨he, g3⟩
      · exact absurd h h0
    · rintro e w3 ⟨u, he, h1, h2⟩
      exact ⟨u, _, he, rfl, h1, h2⟩
  · have hp : getP xs = zP := by unfold getP; rw [if_neg h]
    rw [hp]
    refine get_with (f := zP) (P := fun E => ∃ n' s, E = .iface 74 (.agg #[.int .i64 (getPE xs), .int .i64 n', .string s])) (getPE xs) (fun w' g => packet_no (getPE xs) (fun w'' g2 => (hc w'' (g.trans g2)).mono ?_)) (fun w' E hE g => by obtain ⟨n', s, rfl⟩ := hE; exact number_hit _ _ _ (sn.grew g))
    rintro e w3 ⟨u, he, ⟨h0, _⟩ | ⟨_, n', s, rfl⟩, g3⟩
    · exact absurd h0 h
    · exact ⟨n', s, he, g3⟩
end Go.Proofs.YtalbdeifkbfnbaaDoor
