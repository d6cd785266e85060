/-
  Package ip: Echo of all bytes.
-/
import Derived.Test.YtalbdeifkbfnbaaDoorIpB
import Derived.Test.YtalbdeifkbfnbaaDoorRowSet
set_option maxRecDepth 4000
set_option linter.unusedVariables false
set_option linter.unusedSimpArgs false
namespace Go.Proofs.YtalbdeifkbfnbaaDoor
open Go.RowKit

def echoOk (xs : List Int) : Bool := decide (8 ≤ xs.length) && ((xs.getD 0 0 == 8) && ((xs.getD 1 0 == 0) && decide (sumV xs = 0)))
def echoV (xs : List Int) : List Int := if echoOk xs then patchV (xs.set 0 0) 2 else []
theorem asks_0 (a : Option Addr) (n c : Nat) (xs : List Int) (hl : xs.length ≤ 140737488355328) (h8 : decide ((8 : Int) ≤ (n : Nat)) = false) {w : World} (hb : Buf w (.slice a n c) xs) :
    Calls Tryd.prog 34 #[.slice a n c] w fun e w' => e = .returned (.bool false) ∧ Grew w w' := by
  have HB := Lib.hid hb
  clear hb
  go_enter Tryd.func34, Tryd.ntmps34
  go_wp2_with fail
  go_ret
  exact ⟨rfl, Grew.refl _⟩
theorem asks_1 (a : Option Addr) (n c : Nat) (xs : List Int) (hl : xs.length ≤ 140737488355328) (h8 : decide ((8 : Int) ≤ (n : Nat)) = true) (h0 : (xs.getD 0 0 == 8) = false) {w : World} (hb : Buf w (.slice a n c) xs) :
    Calls Tryd.prog 34 #[.slice a n c] w fun e w' => e = .returned (.bool false) ∧ Grew w w' := by
  have HB := Lib.hid hb
  have hn := hb.lenEq.1
  have h8' : (8 : Int) ≤ (n : Nat) := of_decide_eq_true h8
  have hne : xs ≠ [] := by rintro rfl; simp at hn; omega
  obtain ⟨_, _, ea, _, hat⟩ := hb.shape
  simp only [Value.slice.injEq] at ea
  obtain ⟨rfl, hn', rfl⟩ := ea
  clear hn'
  obtain ⟨bk, off, rfl, hat2⟩ := hat hne
  have x0 : w.cell? ⟨bk, off, none⟩ = some (.int .u8 (xs.getD 0 0)) := by simpa using hat2 0 (by omega)
  have x1 : w.cell? ⟨bk, off + 1, none⟩ = some (.int .u8 (xs.getD 1 0)) := hat2 1 (by omega)
  have k0 : ((0 : Int) < (n : Nat)) ∧ ((1 : Int) < (n : Nat)) := by omega
  clear hat hat2 hne hn h8'
  generalize xs.getD 0 0 = y0 at *
  generalize xs.getD 1 0 = y1 at *
  clear hb
  go_enter Tryd.func34, Tryd.ntmps34
  go_wp2_with fail
  go_ret
  exact ⟨rfl, Grew.refl _⟩
theorem asks_2 (a : Option Addr) (n c : Nat) (xs : List Int) (hl : xs.length ≤ 140737488355328) (h8 : decide ((8 : Int) ≤ (n : Nat)) = true) (h0 : (xs.getD 0 0 == 8) = true) (h1 : (xs.getD 1 0 == 0) = false) {w : World} (hb : Buf w (.slice a n c) xs) :
    Calls Tryd.prog 34 #[.slice a n c] w fun e w' => e = .returned (.bool false) ∧ Grew w w' := by
  have HB := Lib.hid hb
  have hn := hb.lenEq.1
  have h8' : (8 : Int) ≤ (n : Nat) := of_decide_eq_true h8
  have hne : xs ≠ [] := by rintro rfl; simp at hn; omega
  obtain ⟨_, _, ea, _, hat⟩ := hb.shape
  simp only [Value.slice.injEq] at ea
  obtain ⟨rfl, hn', rfl⟩ := ea
  clear hn'
  obtain ⟨bk, off, rfl, hat2⟩ := hat hne
  have x0 : w.cell? ⟨bk, off, none⟩ = some (.int .u8 (xs.getD 0 0)) := by simpa using hat2 0 (by omega)
  have x1 : w.cell? ⟨bk, off + 1, none⟩ = some (.int .u8 (xs.getD 1 0)) := hat2 1 (by omega)
  have k0 : ((0 : Int) < (n : Nat)) ∧ ((1 : Int) < (n : Nat)) := by omega
  clear hat hat2 hne hn h8'
  generalize xs.getD 0 0 = y0 at *
  generalize xs.getD 1 0 = y1 at *
  clear hb
  go_enter Tryd.func34, Tryd.ntmps34
  go_wp2_with fail
  go_ret
  exact ⟨rfl, Grew.refl _⟩
theorem asks_3 (a : Option Addr) (n c : Nat) (xs : List Int) (hl : xs.length ≤ 140737488355328) (h8 : decide ((8 : Int) ≤ (n : Nat)) = true) (h0 : (xs.getD 0 0 == 8) = true) (h1 : (xs.getD 1 0 == 0) = true) {w : World} (hb : Buf w (.slice a n c) xs) :
    Calls Tryd.prog 34 #[.slice a n c] w fun e w' => e = .returned (.bool (decide (sumV xs = 0))) ∧ Grew w w' := by
  have HB := Lib.hid hb
  have hn := hb.lenEq.1
  have h8' : (8 : Int) ≤ (n : Nat) := of_decide_eq_true h8
  have hne : xs ≠ [] := by rintro rfl; simp at hn; omega
  obtain ⟨_, _, ea, _, hat⟩ := hb.shape
  simp only [Value.slice.injEq] at ea
  obtain ⟨rfl, hn', rfl⟩ := ea
  clear hn'
  obtain ⟨bk, off, rfl, hat2⟩ := hat hne
  have x0 : w.cell? ⟨bk, off, none⟩ = some (.int .u8 (xs.getD 0 0)) := by simpa using hat2 0 (by omega)
  have x1 : w.cell? ⟨bk, off + 1, none⟩ = some (.int .u8 (xs.getD 1 0)) := hat2 1 (by omega)
  have k0 : ((0 : Int) < (n : Nat)) ∧ ((1 : Int) < (n : Nat)) := by omega
  clear hat hat2 hne hn h8'
  have HR := Lib.hid (right_c w HB.out hl)
  generalize decide (sumV xs = 0) = z at *
  generalize xs.getD 0 0 = y0 at *
  generalize xs.getD 1 0 = y1 at *
  clear hb
  go_enter Tryd.func34, Tryd.ntmps34
  go_wp2_with fail
  refine HR.out.mono ?_
  rintro e w1 ⟨rfl, g1⟩
  go_wp2_with fail
  go_ret
  exact ⟨rfl, g1⟩
theorem asks_c {v : Value} {xs : List Int} (hl : xs.length ≤ 140737488355328) {w : World} (hb : Buf w v xs) :
    Calls Tryd.prog 34 #[v] w fun e w' => e = .returned (.bool (echoOk xs)) ∧ Grew w w' := by
  obtain ⟨a, c, rfl, _, _⟩ := hb.shape
  have e8 : decide (8 ≤ xs.length) = decide ((8 : Int) ≤ (xs.length : Nat)) := by
    by_cases h : 8 ≤ xs.length
    · rw [decide_eq_true h, decide_eq_true (by omega)]
    · rw [decide_eq_false h, decide_eq_false (by omega)]
  unfold echoOk
  rw [e8]
  cases h8 : decide ((8 : Int) ≤ (xs.length : Nat))
  · exact asks_0 a _ c xs hl h8 hb
  · cases h0 : (xs.getD 0 0 == 8)
    · exact asks_1 a _ c xs hl h8 h0 hb
    · cases h1 : (xs.getD 1 0 == 0)
      · exact asks_2 a _ c xs hl h8 h0 h1 hb
      · exact asks_3 a _ c xs hl h8 h0 h1 hb
theorem AreBytes.set {xs : List Int} (h : AreBytes xs) (k : Nat) {y : Int} (hy : 0 ≤ y ∧ y < 256) : AreBytes (xs.set k y) := fun z hz => by
  rcases List.mem_or_eq_of_mem_set hz with h1 | h1
  · exact h z h1
  · subst h1; exact hy
theorem echo_no (a : Option Addr) (n c : Nat) (xs : List Int) (hl : xs.length ≤ 140737488355328) (hk : echoOk xs = false) {w : World} (hb : Buf w (.slice a n c) xs) :
    Calls Tryd.prog 16 #[.slice a n c] w fun e w' => e = .returned (.tuple #[.slice none 0 0, .bool false]) ∧ Grew w w' := by
  have HA := Lib.hid (asks_c hl hb)
  rw [hk] at HA
  clear hb
  go_enter Tryd.func16, Tryd.ntmps16
  go_wp2_with fail
  refine HA.out.mono ?_
  rintro e w1 ⟨rfl, g1⟩
  go_wp2_with fail
  go_ret2
  exact ⟨rfl, g1⟩
set_option maxHeartbeats 1000000 in
theorem echo_yes (a : Option Addr) (n c : Nat) (xs : List Int) (hl : xs.length ≤ 140737488355328) (hk : echoOk xs = true) {w : World} (hb : Buf w (.slice a n c) xs) :
    Calls Tryd.prog 16 #[.slice a n c] w fun e w' => ∃ u, e = .returned (.tuple #[u, .bool true]) ∧ Buf w' u (patchV (xs.set 0 0) 2) ∧ Grew w w' := by
  have HA := Lib.hid (asks_c hl hb)
  rw [hk] at HA
  have hl8 : 8 ≤ xs.length := by
    unfold echoOk at hk
    simp only [Bool.and_eq_true, decide_eq_true_eq] at hk
    exact hk.1
  have HB := Lib.hid hb
  have HOK := Lib.hid (hb.ok.set 0 (y := 0) (by omega))
  clear hb
  go_enter Tryd.func16, Tryd.ntmps16
  go_wp2_with fail
  refine HA.out.mono ?_
  rintro e w1 ⟨rfl, g1⟩
  go_wp2_with fail
  refine (cloneB_c hl (HB.out.grew g1)).mono ?_
  rintro e w2 ⟨ao, co, rfl, hrow, _, g2⟩
  obtain ⟨g, rfl⟩ : ∃ g, ao = some ⟨g, 0, none⟩ := by
    rcases hrow.2 with ⟨h1, h2⟩ | ⟨g, _, _, h1, _⟩
    · simp only [Value.slice.injEq] at h1; omega
    · simp only [Value.slice.injEq] at h1; exact ⟨g, h1.1⟩
  have y0 := hrow.cellAt 0 (by omega)
  have f0 := hrow.freeAt 0
  have k0 : (0 : Int) < (xs.length : Nat) := by omega
  go_upto_region 5 with fail
  have hrow3 := hrow.setCell 0 0
  have o3 := Only.setCell w2 g 0 (.int .u8 0)
  have g3 := o3.grew g2 hrow.size.2.1
  have HB3 := Lib.hid (hrow3.buf HOK.out)
  have HL3 : Hid ((xs.set 0 0).length ≤ 140737488355328) := Lib.hid (by rw [List.length_set]; exact hl)
  clear y0 f0 hrow hrow3 o3 k0
  generalize (w2.setCell ⟨g, 0, none⟩ (.int .u8 0)) = w3 at *
  go_wp2_with fail
  refine (patch_c 2 (by omega) (by omega) w3 HB3.out HL3.out).mono ?_
  rintro e w4 ⟨u, rfl, hrow4, g4⟩
  have HB4 := Lib.hid (hrow4.buf (patchL_ok HOK.out 2))
  clear hrow4
  go_wp2_with fail
  go_ret2
  exact ⟨_, rfl, HB4.out, g1.trans (g3.trans g4)⟩
theorem Echo_c {v : Value} {xs : List Int} (hl : xs.length ≤ 140737488355328) {w : World} (hb : Buf w v xs) :
    Calls Tryd.prog 16 #[v] w fun e w' => ∃ u, e = .returned (.tuple #[u, .bool (echoOk xs)]) ∧ Buf w' u (echoV xs) ∧ Grew w w' := by
  obtain ⟨a, c, rfl, _, _⟩ := hb.shape
  unfold echoV
  cases h : echoOk xs
  · exact (echo_no a _ c xs hl h hb).mono fun _ _ ⟨h1, h2⟩ => ⟨_, h1, Buf.nil _, h2⟩
  · exact echo_yes a _ c xs hl h hb
end Go.Proofs.YtalbdeifkbfnbaaDoor
