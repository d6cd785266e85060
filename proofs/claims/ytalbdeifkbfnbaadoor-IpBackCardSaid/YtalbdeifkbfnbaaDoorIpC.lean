/-
  Package ip: why bytes are no packet (check), and the number of that.
-/
import Derived.Test.YtalbdeifkbfnbaaDoorIpA
import Derived.Test.YtalbdeifkbfnbaaDoorIpAs
import Derived.Test.YtalbdeifkbfnbaaDoorIpL
import Derived.Test.YtalbdeifkbfnbaaDoorSmA
set_option maxRecDepth 4000
set_option linter.unusedVariables false
set_option linter.unusedSimpArgs false
namespace Go.Proofs.YtalbdeifkbfnbaaDoor
open Go.RowKit

theorem check_short (a : Option Addr) (n c : Nat) (hs : (n : Int) < 20) (w : World) :
    Calls Tryd.prog 45 #[.slice a n c] w fun e w' => ∃ s, e = .returned (.iface 74 (.agg #[.int .i64 160, .int .i64 n, .string s])) ∧ Grew w w' := by
  go_enter Tryd.func45, Tryd.ntmps45
  go_wp2_with fail
  go_ret
  exact ⟨_, rfl, Grew.refl _⟩
set_option maxHeartbeats 1000000 in
theorem check_0 (a : Option Addr) (n c : Nat) (xs : List Int) (hs : ¬ ((n : Int) < 20)) {w : World} (hb : Buf w (.slice a n c) xs) (h1 : (xs.getD 0 0 / 16 != 4) = true) :
    Calls Tryd.prog 45 #[.slice a n c] w fun e w' => ∃ s, e = .returned (.iface 74 (.agg #[.int .i64 161, .int .i64 n, .string s])) ∧ Grew w w' := by
  have hn := hb.lenEq.1
  have hne : xs ≠ [] := by rintro rfl; simp at hn; omega
  obtain ⟨_, _, ea, _, hat⟩ := hb.shape
  simp only [Value.slice.injEq] at ea
  obtain ⟨rfl, hn', rfl⟩ := ea
  clear hn'
  obtain ⟨bk, off, rfl, hat2⟩ := hat hne
  have x0 : w.cell? ⟨bk, off, none⟩ = some (.int .u8 (xs.getD 0 0)) := by simpa using hat2 0 (by omega)
  have hx0 := hb.ok.getD 0
  have hm0 := getG_lt (hb.ok.cut 2 4) true (n := 2) (cutL_length (by omega) (by omega)) (by omega)
  have HT := Lib.hid (headTold_c (by omega) w hb)
  have HP := Lib.hid (pairAt_c 2 2 4 rfl rfl (by omega) w hb)
  have hM : getV (cutL xs 2 4) true = ((alV xs : Nat) : Int) := by unfold alV; omega
  rw [hM] at HP
  clear hM hm0
  generalize hlV xs = N at *
  generalize alV xs = M at *
  generalize xs.getD 0 0 = x at *
  clear hat hat2 hne hn hb    
  go_enter Tryd.func45, Tryd.ntmps45
  go_wp2_with fail
  refine HT.out.mono ?_
  rintro e w1 ⟨rfl, h9⟩
  obtain rfl := h9.symm
  go_wp2_with fail
  refine HP.out.mono ?_
  rintro e w1 ⟨rfl, h9⟩
  obtain rfl := h9.symm
  go_wp2_with fail
  go_ret
  exact ⟨_, rfl, Grew.refl _⟩
set_option maxHeartbeats 1000000 in
theorem check_1 (a : Option Addr) (n c : Nat) (xs : List Int) (hs : ¬ ((n : Int) < 20)) {w : World} (hb : Buf w (.slice a n c) xs) (h1 : (xs.getD 0 0 / 16 != 4) = false) (h2 : hlV xs < 20) :
    Calls Tryd.prog 45 #[.slice a n c] w fun e w' => ∃ s, e = .returned (.iface 74 (.agg #[.int .i64 161, .int .i64 n, .string s])) ∧ Grew w w' := by
  have hn := hb.lenEq.1
  have hne : xs ≠ [] := by rintro rfl; simp at hn; omega
  obtain ⟨_, _, ea, _, hat⟩ := hb.shape
  simp only [Value.slice.injEq] at ea
  obtain ⟨rfl, hn', rfl⟩ := ea
  clear hn'
  obtain ⟨bk, off, rfl, hat2⟩ := hat hne
  have x0 : w.cell? ⟨bk, off, none⟩ = some (.int .u8 (xs.getD 0 0)) := by simpa using hat2 0 (by omega)
  have hx0 := hb.ok.getD 0
  have hm0 := getG_lt (hb.ok.cut 2 4) true (n := 2) (cutL_length (by omega) (by omega)) (by omega)
  have HT := Lib.hid (headTold_c (by omega) w hb)
  have HP := Lib.hid (pairAt_c 2 2 4 rfl rfl (by omega) w hb)
  have hM : getV (cutL xs 2 4) true = ((alV xs : Nat) : Int) := by unfold alV; omega
  rw [hM] at HP
  clear hM hm0
  have k2 : (((hlV xs : Nat) : Int) < 20) := by omega
  generalize hlV xs = N at *
  generalize alV xs = M at *
  generalize xs.getD 0 0 = x at *
  clear hat hat2 hne hn hb h2   
  go_enter Tryd.func45, Tryd.ntmps45
  go_wp2_with fail
  refine HT.out.mono ?_
  rintro e w1 ⟨rfl, h9⟩
  obtain rfl := h9.symm
  go_wp2_with fail
  refine HP.out.mono ?_
  rintro e w1 ⟨rfl, h9⟩
  obtain rfl := h9.symm
  go_wp2_with fail
  go_ret
  exact ⟨_, rfl, Grew.refl _⟩
set_option maxHeartbeats 1000000 in
theorem check_2 (a : Option Addr) (n c : Nat) (xs : List Int) (hs : ¬ ((n : Int) < 20)) {w : World} (hb : Buf w (.slice a n c) xs) (h1 : (xs.getD 0 0 / 16 != 4) = false) (h2 : ¬ hlV xs < 20) (h3 : xs.length < hlV xs) :
    Calls Tryd.prog 45 #[.slice a n c] w fun e w' => ∃ s, e = .returned (.iface 74 (.agg #[.int .i64 160, .int .i64 n, .string s])) ∧ Grew w w' := by
  have hn := hb.lenEq.1
  have hne : xs ≠ [] := by rintro rfl; simp at hn; omega
  obtain ⟨_, _, ea, _, hat⟩ := hb.shape
  simp only [Value.slice.injEq] at ea
  obtain ⟨rfl, hn', rfl⟩ := ea
  clear hn'
  obtain ⟨bk, off, rfl, hat2⟩ := hat hne
  have x0 : w.cell? ⟨bk, off, none⟩ = some (.int .u8 (xs.getD 0 0)) := by simpa using hat2 0 (by omega)
  have hx0 := hb.ok.getD 0
  have hm0 := getG_lt (hb.ok.cut 2 4) true (n := 2) (cutL_length (by omega) (by omega)) (by omega)
  have HT := Lib.hid (headTold_c (by omega) w hb)
  have HP := Lib.hid (pairAt_c 2 2 4 rfl rfl (by omega) w hb)
  have hM : getV (cutL xs 2 4) true = ((alV xs : Nat) : Int) := by unfold alV; omega
  rw [hM] at HP
  clear hM hm0
  have k2 : ¬ (((hlV xs : Nat) : Int) < 20) := by omega
  have k3 : (((n : Nat) : Int) < (hlV xs : Nat)) := by omega
  generalize hlV xs = N at *
  generalize alV xs = M at *
  generalize xs.getD 0 0 = x at *
  clear hat hat2 hne hn hb h2 h3  
  go_enter Tryd.func45, Tryd.ntmps45
  go_wp2_with fail
  refine HT.out.mono ?_
  rintro e w1 ⟨rfl, h9⟩
  obtain rfl := h9.symm
  go_wp2_with fail
  refine HP.out.mono ?_
  rintro e w1 ⟨rfl, h9⟩
  obtain rfl := h9.symm
  go_wp2_with fail
  go_ret
  exact ⟨_, rfl, Grew.refl _⟩
set_option maxHeartbeats 1000000 in
theorem check_3 (a : Option Addr) (n c : Nat) (xs : List Int) (hs : ¬ ((n : Int) < 20)) {w : World} (hb : Buf w (.slice a n c) xs) (h1 : (xs.getD 0 0 / 16 != 4) = false) (h2 : ¬ hlV xs < 20) (h3 : ¬ xs.length < hlV xs) (h4 : ¬ sumV (cutL xs 0 (hlV xs)) = 0) :
    Calls Tryd.prog 45 #[.slice a n c] w fun e w' => ∃ s, e = .returned (.iface 74 (.agg #[.int .i64 162, .int .i64 n, .string s])) ∧ Grew w w' := by
  have hn := hb.lenEq.1
  have hne : xs ≠ [] := by rintro rfl; simp at hn; omega
  obtain ⟨_, _, ea, _, hat⟩ := hb.shape
  simp only [Value.slice.injEq] at ea
  obtain ⟨rfl, hn', rfl⟩ := ea
  clear hn'
  obtain ⟨bk, off, rfl, hat2⟩ := hat hne
  have x0 : w.cell? ⟨bk, off, none⟩ = some (.int .u8 (xs.getD 0 0)) := by simpa using hat2 0 (by omega)
  have hx0 := hb.ok.getD 0
  have hm0 := getG_lt (hb.ok.cut 2 4) true (n := 2) (cutL_length (by omega) (by omega)) (by omega)
  have HT := Lib.hid (headTold_c (by omega) w hb)
  have HP := Lib.hid (pairAt_c 2 2 4 rfl rfl (by omega) w hb)
  have hM : getV (cutL xs 2 4) true = ((alV xs : Nat) : Int) := by unfold alV; omega
  rw [hM] at HP
  clear hM hm0
  obtain ⟨a1, c1, H1, z1, z2, hrun, z4⟩ := hb.run_cut (lo := 0) (hi := hlV xs) (by omega) (by omega)
  have r1 : ∀ w', (Instr.sliceAt 23 (.slice (some ⟨bk, off, none⟩) n c) none (some (.int .i64 (hlV xs : Nat))) none).run Tryd.prog w' = .ok (.slice a1 (hlV xs) c1) w' := hrun rfl .i64
  clear z1 z2 hrun z4
  have hl1 : (cutL xs 0 (hlV xs)).length = hlV xs := by rw [cutL_length (by omega) (by omega)]; omega
  have HR := Lib.hid (right_c w (by simpa using H1) (by rw [hl1]; unfold hlV; omega))
  rw [show decide (sumV (cutL xs 0 (hlV xs)) = 0) = false from decide_eq_false h4] at HR
  clear h4 H1 hl1
  have k2 : ¬ (((hlV xs : Nat) : Int) < 20) := by omega
  have k3 : ¬ (((n : Nat) : Int) < (hlV xs : Nat)) := by omega
  generalize hlV xs = N at *
  generalize alV xs = M at *
  generalize xs.getD 0 0 = x at *
  clear hat hat2 hne hn hb h2 h3  
  go_enter Tryd.func45, Tryd.ntmps45
  go_wp2_with fail
  refine HT.out.mono ?_
  rintro e w1 ⟨rfl, h9⟩
  obtain rfl := h9.symm
  go_wp2_with fail
  refine HP.out.mono ?_
  rintro e w1 ⟨rfl, h9⟩
  obtain rfl := h9.symm
  go_wp2_with fail
  refine HR.out.mono ?_
  rintro e w2 ⟨rfl, g2⟩
  go_wp2_with fail
  go_ret
  exact ⟨_, rfl, g2⟩
set_option maxHeartbeats 1000000 in
theorem check_4 (a : Option Addr) (n c : Nat) (xs : List Int) (hs : ¬ ((n : Int) < 20)) {w : World} (hb : Buf w (.slice a n c) xs) (h1 : (xs.getD 0 0 / 16 != 4) = false) (h2 : ¬ hlV xs < 20) (h3 : ¬ xs.length < hlV xs) (h4 : sumV (cutL xs 0 (hlV xs)) = 0) (h5 : alV xs < hlV xs) :
    Calls Tryd.prog 45 #[.slice a n c] w fun e w' => ∃ s, e = .returned (.iface 74 (.agg #[.int .i64 161, .int .i64 n, .string s])) ∧ Grew w w' := by
  have hn := hb.lenEq.1
  have hne : xs ≠ [] := by rintro rfl; simp at hn; omega
  obtain ⟨_, _, ea, _, hat⟩ := hb.shape
  simp only [Value.slice.injEq] at ea
  obtain ⟨rfl, hn', rfl⟩ := ea
  clear hn'
  obtain ⟨bk, off, rfl, hat2⟩ := hat hne
  have x0 : w.cell? ⟨bk, off, none⟩ = some (.int .u8 (xs.getD 0 0)) := by simpa using hat2 0 (by omega)
  have hx0 := hb.ok.getD 0
  have hm0 := getG_lt (hb.ok.cut 2 4) true (n := 2) (cutL_length (by omega) (by omega)) (by omega)
  have HT := Lib.hid (headTold_c (by omega) w hb)
  have HP := Lib.hid (pairAt_c 2 2 4 rfl rfl (by omega) w hb)
  have hM : getV (cutL xs 2 4) true = ((alV xs : Nat) : Int) := by unfold alV; omega
  rw [hM] at HP
  clear hM hm0
  obtain ⟨a1, c1, H1, z1, z2, hrun, z4⟩ := hb.run_cut (lo := 0) (hi := hlV xs) (by omega) (by omega)
  have r1 : ∀ w', (Instr.sliceAt 23 (.slice (some ⟨bk, off, none⟩) n c) none (some (.int .i64 (hlV xs : Nat))) none).run Tryd.prog w' = .ok (.slice a1 (hlV xs) c1) w' := hrun rfl .i64
  clear z1 z2 hrun z4
  have hl1 : (cutL xs 0 (hlV xs)).length = hlV xs := by rw [cutL_length (by omega) (by omega)]; omega
  have HR := Lib.hid (right_c w (by simpa using H1) (by rw [hl1]; unfold hlV; omega))
  rw [show decide (sumV (cutL xs 0 (hlV xs)) = 0) = true from decide_eq_true h4] at HR
  clear h4 H1 hl1
  have k2 : ¬ (((hlV xs : Nat) : Int) < 20) := by omega
  have k3 : ¬ (((n : Nat) : Int) < (hlV xs : Nat)) := by omega
  have k5 : (((alV xs : Nat) : Int) < (hlV xs : Nat)) := by omega
  generalize hlV xs = N at *
  generalize alV xs = M at *
  generalize xs.getD 0 0 = x at *
  clear hat hat2 hne hn hb h2 h3 h5 
  go_enter Tryd.func45, Tryd.ntmps45
  go_wp2_with fail
  refine HT.out.mono ?_
  rintro e w1 ⟨rfl, h9⟩
  obtain rfl := h9.symm
  go_wp2_with fail
  refine HP.out.mono ?_
  rintro e w1 ⟨rfl, h9⟩
  obtain rfl := h9.symm
  go_wp2_with fail
  refine HR.out.mono ?_
  rintro e w2 ⟨rfl, g2⟩
  go_wp2_with fail
  go_ret
  exact ⟨_, rfl, g2⟩
set_option maxHeartbeats 1000000 in
theorem check_5 (a : Option Addr) (n c : Nat) (xs : List Int) (hs : ¬ ((n : Int) < 20)) {w : World} (hb : Buf w (.slice a n c) xs) (h1 : (xs.getD 0 0 / 16 != 4) = false) (h2 : ¬ hlV xs < 20) (h3 : ¬ xs.length < hlV xs) (h4 : sumV (cutL xs 0 (hlV xs)) = 0) (h5 : ¬ alV xs < hlV xs) (h6 : xs.length < alV xs) :
    Calls Tryd.prog 45 #[.slice a n c] w fun e w' => ∃ s, e = .returned (.iface 74 (.agg #[.int .i64 160, .int .i64 n, .string s])) ∧ Grew w w' := by
  have hn := hb.lenEq.1
  have hne : xs ≠ [] := by rintro rfl; simp at hn; omega
  obtain ⟨_, _, ea, _, hat⟩ := hb.shape
  simp only [Value.slice.injEq] at ea
  obtain ⟨rfl, hn', rfl⟩ := ea
  clear hn'
  obtain ⟨bk, off, rfl, hat2⟩ := hat hne
  have x0 : w.cell? ⟨bk, off, none⟩ = some (.int .u8 (xs.getD 0 0)) := by simpa using hat2 0 (by omega)
  have hx0 := hb.ok.getD 0
  have hm0 := getG_lt (hb.ok.cut 2 4) true (n := 2) (cutL_length (by omega) (by omega)) (by omega)
  have HT := Lib.hid (headTold_c (by omega) w hb)
  have HP := Lib.hid (pairAt_c 2 2 4 rfl rfl (by omega) w hb)
  have hM : getV (cutL xs 2 4) true = ((alV xs : Nat) : Int) := by unfold alV; omega
  rw [hM] at HP
  clear hM hm0
  obtain ⟨a1, c1, H1, z1, z2, hrun, z4⟩ := hb.run_cut (lo := 0) (hi := hlV xs) (by omega) (by omega)
  have r1 : ∀ w', (Instr.sliceAt 23 (.slice (some ⟨bk, off, none⟩) n c) none (some (.int .i64 (hlV xs : Nat))) none).run Tryd.prog w' = .ok (.slice a1 (hlV xs) c1) w' := hrun rfl .i64
  clear z1 z2 hrun z4
  have hl1 : (cutL xs 0 (hlV xs)).length = hlV xs := by rw [cutL_length (by omega) (by omega)]; omega
  have HR := Lib.hid (right_c w (by simpa using H1) (by rw [hl1]; unfold hlV; omega))
  rw [show decide (sumV (cutL xs 0 (hlV xs)) = 0) = true from decide_eq_true h4] at HR
  clear h4 H1 hl1
  have k2 : ¬ (((hlV xs : Nat) : Int) < 20) := by omega
  have k3 : ¬ (((n : Nat) : Int) < (hlV xs : Nat)) := by omega
  have k5 : ¬ (((alV xs : Nat) : Int) < (hlV xs : Nat)) := by omega
  have k6 : (((n : Nat) : Int) < (alV xs : Nat)) := by omega
  generalize hlV xs = N at *
  generalize alV xs = M at *
  generalize xs.getD 0 0 = x at *
  clear hat hat2 hne hn hb h2 h3 h5 h6
  go_enter Tryd.func45, Tryd.ntmps45
  go_wp2_with fail
  refine HT.out.mono ?_
  rintro e w1 ⟨rfl, h9⟩
  obtain rfl := h9.symm
  go_wp2_with fail
  refine HP.out.mono ?_
  rintro e w1 ⟨rfl, h9⟩
  obtain rfl := h9.symm
  go_wp2_with fail
  refine HR.out.mono ?_
  rintro e w2 ⟨rfl, g2⟩
  go_wp2_with fail
  go_ret
  exact ⟨_, rfl, g2⟩
set_option maxHeartbeats 1000000 in
theorem check_6 (a : Option Addr) (n c : Nat) (xs : List Int) (hs : ¬ ((n : Int) < 20)) {w : World} (hb : Buf w (.slice a n c) xs) (h1 : (xs.getD 0 0 / 16 != 4) = false) (h2 : ¬ hlV xs < 20) (h3 : ¬ xs.length < hlV xs) (h4 : sumV (cutL xs 0 (hlV xs)) = 0) (h5 : ¬ alV xs < hlV xs) (h6 : ¬ xs.length < alV xs) :
    Calls Tryd.prog 45 #[.slice a n c] w fun e w' => e = .returned .nilIface ∧ Grew w w' := by
  have hn := hb.lenEq.1
  have hne : xs ≠ [] := by rintro rfl; simp at hn; omega
  obtain ⟨_, _, ea, _, hat⟩ := hb.shape
  simp only [Value.slice.injEq] at ea
  obtain ⟨rfl, hn', rfl⟩ := ea
  clear hn'
  obtain ⟨bk, off, rfl, hat2⟩ := hat hne
  have x0 : w.cell? ⟨bk, off, none⟩ = some (.int .u8 (xs.getD 0 0)) := by simpa using hat2 0 (by omega)
  have hx0 := hb.ok.getD 0
  have hm0 := getG_lt (hb.ok.cut 2 4) true (n := 2) (cutL_length (by omega) (by omega)) (by omega)
  have HT := Lib.hid (headTold_c (by omega) w hb)
  have HP := Lib.hid (pairAt_c 2 2 4 rfl rfl (by omega) w hb)
  have hM : getV (cutL xs 2 4) true = ((alV xs : Nat) : Int) := by unfold alV; omega
  rw [hM] at HP
  clear hM hm0
  obtain ⟨a1, c1, H1, z1, z2, hrun, z4⟩ := hb.run_cut (lo := 0) (hi := hlV xs) (by omega) (by omega)
  have r1 : ∀ w', (Instr.sliceAt 23 (.slice (some ⟨bk, off, none⟩) n c) none (some (.int .i64 (hlV xs : Nat))) none).run Tryd.prog w' = .ok (.slice a1 (hlV xs) c1) w' := hrun rfl .i64
  clear z1 z2 hrun z4
  have hl1 : (cutL xs 0 (hlV xs)).length = hlV xs := by rw [cutL_length (by omega) (by omega)]; omega
  have HR := Lib.hid (right_c w (by simpa using H1) (by rw [hl1]; unfold hlV; omega))
  rw [show decide (sumV (cutL xs 0 (hlV xs)) = 0) = true from decide_eq_true h4] at HR
  clear h4 H1 hl1
  have k2 : ¬ (((hlV xs : Nat) : Int) < 20) := by omega
  have k3 : ¬ (((n : Nat) : Int) < (hlV xs : Nat)) := by omega
  have k5 : ¬ (((alV xs : Nat) : Int) < (hlV xs : Nat)) := by omega
  have k6 : ¬ (((n : Nat) : Int) < (alV xs : Nat)) := by omega
  generalize hlV xs = N at *
  generalize alV xs = M at *
  generalize xs.getD 0 0 = x at *
  clear hat hat2 hne hn hb h2 h3 h5 h6
  go_enter Tryd.func45, Tryd.ntmps45
  go_wp2_with fail
  refine HT.out.mono ?_
  rintro e w1 ⟨rfl, h9⟩
  obtain rfl := h9.symm
  go_wp2_with fail
  refine HP.out.mono ?_
  rintro e w1 ⟨rfl, h9⟩
  obtain rfl := h9.symm
  go_wp2_with fail
  refine HR.out.mono ?_
  rintro e w2 ⟨rfl, g2⟩
  go_wp2_with fail
  go_ret
  exact ⟨rfl, g2⟩
theorem check_c {v : Value} {xs : List Int} {w : World} (hb : Buf w v xs) :
    Calls Tryd.prog 45 #[v] w fun e w' => ∃ u, e = .returned u ∧ ((getPE xs = 0 ∧ u = .nilIface) ∨ (getPE xs ≠ 0 ∧ ∃ n s, u = .iface 74 (.agg #[.int .i64 (getPE xs), .int .i64 n, .string s]))) ∧ Grew w w' := by
  obtain ⟨a, c, rfl, _, _⟩ := hb.shape
  have no : ∀ {k : Int}, getPE xs = k → k ≠ 0 → (Calls Tryd.prog 45 #[.slice a xs.length c] w fun e w' => ∃ s, e = .returned (.iface 74 (.agg #[.int .i64 k, .int .i64 (xs.length : Nat), .string s])) ∧ Grew w w') → Calls Tryd.prog 45 #[.slice a xs.length c] w fun e w' => ∃ u, e = .returned u ∧ ((getPE xs = 0 ∧ u = .nilIface) ∨ (getPE xs ≠ 0 ∧ ∃ n s, u = .iface 74 (.agg #[.int .i64 (getPE xs), .int .i64 n, .string s]))) ∧ Grew w w' := fun hk h0 h => by
    rw [hk]
    exact h.mono fun _ _ ⟨s, he, g⟩ => ⟨_, he, .inr ⟨h0, _, s, rfl⟩, g⟩
  by_cases h0 : xs.length < 20
  · exact no (k := 160) (by unfold getPE; rw [if_pos h0]) (by omega) (check_short a _ c (by omega) w)
  · have hs : ¬ ((xs.length : Int) < 20) := by omega
    cases h1 : (xs.getD 0 0 / 16 != 4)
    · have h1' : xs.getD 0 0 / 16 = 4 := by simpa using h1
      by_cases h2 : hlV xs < 20
      · exact no (k := 161) (by unfold getPE; rw [if_neg h0, if_pos (Or.inr h2)]) (by omega) (check_1 a _ c xs hs hb h1 h2)
      · have hq : ¬ (xs.getD 0 0 / 16 ≠ 4 ∨ hlV xs < 20) := by omega
        by_cases h3 : xs.length < hlV xs
        · exact no (k := 160) (by unfold getPE; rw [if_neg h0, if_neg hq, if_pos h3]) (by omega) (check_2 a _ c xs hs hb h1 h2 h3)
        · by_cases h4 : sumV (cutL xs 0 (hlV xs)) = 0
          · by_cases h5 : alV xs < hlV xs
            · exact no (k := 161) (by unfold getPE; rw [if_neg h0, if_neg hq, if_neg h3, if_neg (by omega), if_pos h5]) (by omega) (check_4 a _ c xs hs hb h1 h2 h3 h4 h5)
            · by_cases h6 : xs.length < alV xs
              · exact no (k := 160) (by unfold getPE; rw [if_neg h0, if_neg hq, if_neg h3, if_neg (by omega), if_neg h5, if_pos h6]) (by omega) (check_5 a _ c xs hs hb h1 h2 h3 h4 h5 h6)
              · have hk : getPE xs = 0 := by unfold getPE; rw [if_neg h0, if_neg hq, if_neg h3, if_neg (by omega), if_neg h5, if_neg h6]
                exact (check_6 a _ c xs hs hb h1 h2 h3 h4 h5 h6).mono fun _ _ ⟨he, g⟩ => ⟨_, he, .inl ⟨hk, rfl⟩, g⟩
          · exact no (k := 162) (by unfold getPE; rw [if_neg h0, if_neg hq, if_neg h3, if_pos h4]) (by omega) (check_3 a _ c xs hs hb h1 h2 h3 h4)
    · have h1' : ¬ xs.getD 0 0 / 16 = 4 := by simpa using h1
      exact no (k := 161) (by unfold getPE; rw [if_neg h0, if_pos (Or.inl h1')]) (by omega) (check_0 a _ c xs hs hb h1)
theorem number_nil (w : World) : Calls Tryd.prog 27 #[.nilIface] w fun e w' => e = .returned (.int .i64 0) ∧ Grew w w' := by
  go_enter Tryd.func27, Tryd.ntmps27
  go_upto_region 2 with fail
  have hX : Blk (w.alloc (.cells #[.int .i64 0, .int .i64 0, .string ⟨#[]⟩] 74)) w.heap.size #[.int .i64 0, .int .i64 0, .string ⟨#[]⟩] 74 := Blk.new _ _ _ _ rfl
  have g0 : Grew w (w.alloc (.cells #[.int .i64 0, .int .i64 0, .string ⟨#[]⟩] 74)) := (Grew.refl _).alloc _
  generalize (w.alloc (.cells #[.int .i64 0, .int .i64 0, .string ⟨#[]⟩] 74)) = w0 at *
  generalize hlX : w.heap.size = X at *
  go_wp2_with fail
  refine (as_nil _ _).mono ?_
  rintro e w1 ⟨rfl, h1⟩
  obtain rfl := h1.symm
  go_wp2_with fail
  go_ret
  exact ⟨rfl, g0⟩
theorem number_hit (k n : Int) (s : ByteArray) {w : World} (sn : SenW w) : Calls Tryd.prog 27 #[.iface 74 (.agg #[.int .i64 k, .int .i64 n, .string s])] w fun e w' => e = .returned (.int .i64 k) ∧ Grew w w' := by
  go_enter Tryd.func27, Tryd.ntmps27
  go_upto_region 2 with fail
  have hX : Blk (w.alloc (.cells #[.int .i64 0, .int .i64 0, .string ⟨#[]⟩] 74)) w.heap.size #[.int .i64 0, .int .i64 0, .string ⟨#[]⟩] 74 := Blk.new _ _ _ _ rfl
  have g0 : Grew w (w.alloc (.cells #[.int .i64 0, .int .i64 0, .string ⟨#[]⟩] 74)) := (Grew.refl _).alloc _
  generalize (w.alloc (.cells #[.int .i64 0, .int .i64 0, .string ⟨#[]⟩] 74)) = w0 at *
  generalize hlX : w.heap.size = X at *
  go_wp2_with fail
  refine (as_hit _ _ _ (sn.grew g0) hX rfl).mono ?_
  rintro e w1 ⟨rfl, hX1, t1⟩
  have G1 : Grew w w1 := t1.grew g0 (by omega)
  have y0 := hX1.cell 0
  go_wp2_with fail
  go_ret
  exact ⟨rfl, G1⟩
end Go.Proofs.YtalbdeifkbfnbaaDoor
