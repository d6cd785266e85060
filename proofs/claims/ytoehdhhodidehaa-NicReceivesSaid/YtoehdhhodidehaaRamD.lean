/-
  Contracts of the document's own memory: Bytes, Read, Fill, Write, New, Same.
-/
import Derived.Test.YtoehdhhodidehaaRows
import Derived.Test.YtoehdhhodidehaaRamC
import Derived.WalkKit
import Derived.Outline
import Derived.Handy
import Derived.StillTailTactics
import Derived.Deep.QuietTactic
import Derived.BigQuiet
import Derived.Deep.DeepCutAuto
import Derived.Deep.RegionHeld3
set_option maxRecDepth 4000
set_option linter.unusedVariables false
set_option linter.unusedSimpArgs false
namespace Go.Proofs.Ytoehdhhodidehaa
open Go.RowKit

theorem nil_ok : AreBytes [] := fun x hx => by simp at hx
theorem bytesV_ok {xs : List Int} (h : AreBytes xs) (x n : Int) : AreBytes (bytesV xs x n) := by
  unfold bytesV; split
  · exact h.cut _ _
  · exact nil_ok

/-! ### Bytes -/
theorem refBytes_yes {a : Option Addr} {m c : Nat} {xs : List Int} (lo k : Nat) (h : lo + k ≤ xs.length) (w : World) (hb : Buf w (.slice a m c) xs) (hl : xs.length ≤ 140737488355328) :
    Calls Try.prog 38 #[.agg #[.slice a m c], .int .u64 (2147483648 + (lo : Int)), .int .i64 k] w fun e w' => ∃ u, e = .returned (.tuple #[u, .bool true]) ∧ Buf w' u (cutL xs lo (lo + k)) ∧ Grew w w' := by
  obtain ⟨rfl, hc⟩ := hb.lenEq
  have hm := hb.len
  obtain ⟨a', c', hcut, hat, hrun, q1, q2⟩ := hb.run_cut (lo := lo) (hi := lo + k) (by omega) h
  clear q1 q2 hat
  have hcl : (cutL xs lo (lo + k)).length ≤ 140737488355328 := by rw [cutL_length (by omega) h]; omega
  rw [show lo + k - lo = k by omega] at hcut hrun
  have HC := Lib.hid hcut
  have hok := hb.ok.cut lo (lo + k)
  have hv : insideV xs.length (2147483648 + (lo : Int)) k = true := by rw [insideV_at]; exact decide_eq_true h
  obtain ⟨x, hx⟩ : ∃ x : Int, x = 2147483648 + (lo : Int) := ⟨_, rfl⟩
  have hrun' : ∀ w', (Instr.sliceAt 23 (.slice a xs.length c) (some (.int .i64 (x - 2147483648))) (some (.int .i64 (x - 2147483648 + k))) none).run Try.prog w' = .ok (.slice a' k c') w' := fun w' => by
    have := hrun .i64 .i64 w'
    rw [show x - 2147483648 + (k : Int) = ((lo + k : Nat) : Int) by omega, show x - 2147483648 = (lo : Int) by omega]
    exact this
  have HRUN := Lib.hid hrun'
  unfold maxLen at hm
  have b1 : 2147483648 ≤ x := by omega
  have b2 : x - 2147483648 + (k : Int) ≤ 9223372036854775807 := by omega
  have b3 : x < 18446744073709551616 := by omega
  have hin : ∀ w, Calls Try.prog 50 #[.agg #[.slice a xs.length c], .int .u64 x, .int .i64 k] w fun e w' => e = .returned (.bool true) ∧ Grew w w' := fun w => by
    have := refInside_c a xs.length c x k (by unfold maxLen; omega) (by omega) (by omega) (by omega) (by omega) w
    rw [show insideV xs.length x k = true by rw [hx]; exact hv] at this
    exact this
  have HIN := Lib.hid hin
  rw [← hx]
  have HX := Lib.hid hx
  have HOK := Lib.hid hok
  generalize cutL xs lo (lo + k) = zs at *
  clear hx hin hrun' hrun hv hcut hb hok
  go_enter Try.func38, Try.ntmps38
  go_wp2_with fail
  refine (HIN.out _).mono ?_
  rintro e w1 ⟨rfl, g1⟩
  have hB1 : Blk w1 w.heap.size #[.slice a xs.length c] 27 := (Blk.new w _ _ _ rfl).grew g1
  have cB := hB1.cell 0
  have cB2 := (hB1.alloc (.cells #[] 5)).cell 0
  have g2 := ((Grew.refl w).alloc (.cells #[.slice a xs.length c] 27)).trans g1
  go_wp2_with (first
    | (refine wpList_cut rfl _ (.tmp 19) (some (.tmp 20)) (some (.tmp 23)) rfl _ (by exact HRUN.out _) ?_)
    | (refine wpList_append_b rfl (.tmp 17) (.tmp 24) rfl ((Grew.refl w1).alloc (.cells #[] 5)) (Row.lit w1 w1.heap.size (Nat.le_refl _) #[] [] rfl (Nat.zero_le _) _ rfl 0 rfl) ((HC.out.grew g2).grew ((Grew.refl w1).alloc _)) (by rfl) (by rfl) (by simpa using hcl) ?_; intro v' w3 HR g3 _))
  go_ret2
  exact ⟨v', rfl, HR.out.buf (by simpa using HOK.out), g2.trans g3⟩

theorem refBytes_no {a : Option Addr} {m c : Nat} (x n : Int) (hm : m ≤ maxLen) (hx0 : 0 ≤ x) (hx1 : x < 18446744073709551616) (hn0 : -9223372036854775808 ≤ n) (hn1 : n ≤ 9223372036854775807) (h : insideV m x n = false) (w : World) :
    Calls Try.prog 38 #[.agg #[.slice a m c], .int .u64 x, .int .i64 n] w fun e w' => e = .returned (.tuple #[.slice none 0 0, .bool false]) ∧ Grew w w' := by
  have hin : ∀ w, Calls Try.prog 50 #[.agg #[.slice a m c], .int .u64 x, .int .i64 n] w fun e w' => e = .returned (.bool false) ∧ Grew w w' := fun w => by
    have := refInside_c a m c x n hm hx0 hx1 hn0 hn1 w
    rwa [h] at this
  have HIN := Lib.hid hin
  clear hin h
  go_enter Try.func38, Try.ntmps38
  go_wp2_with fail
  refine (HIN.out _).mono ?_
  rintro e w1 ⟨rfl, g1⟩
  obtain ⟨c1, f1⟩ := gcell g1
  go_wp2_with fail
  go_ret2
  exact ⟨rfl, ((Grew.refl w).alloc (.cells #[.slice a m c] 27)).trans g1⟩
theorem refBytes_c {v : Value} {xs : List Int} (x n : Int) (hx0 : 0 ≤ x) (hx1 : x < 18446744073709551616) (hn0 : -9223372036854775808 ≤ n) (hn1 : n ≤ 9223372036854775807) (w : World) (hb : Buf w v xs) (hl : xs.length ≤ 140737488355328) :
    Calls Try.prog 38 #[.agg #[v], .int .u64 x, .int .i64 n] w fun e w' => ∃ u, e = .returned (.tuple #[u, .bool (insideV xs.length x n)]) ∧ Buf w' u (bytesV xs x n) ∧ Grew w w' := by
  obtain ⟨a, c, rfl, _, _⟩ := hb.shape
  cases hv : insideV xs.length x n
  · refine (refBytes_no x n hb.len hx0 hx1 hn0 hn1 hv w).mono ?_
    rintro e w' ⟨rfl, g⟩
    exact ⟨_, rfl, by rw [bytesV_out hv]; exact Buf.nil _, g⟩
  · obtain ⟨lo, k, rfl, rfl, h⟩ := insideV_no hv
    refine (refBytes_yes lo k h w hb hl).mono ?_
    rintro e w' ⟨u, rfl, hb', g⟩
    exact ⟨u, rfl, by rw [bytesV_in h]; exact hb', g⟩

/-! ### Read -/
theorem refRead_c {v : Value} {xs : List Int} (x n : Int) (hx0 : 0 ≤ x) (hx1 : x < 18446744073709551616) (hn0 : -9223372036854775808 ≤ n) (hn1 : n ≤ 9223372036854775807) (w : World) (hb : Buf w v xs) (hl : xs.length ≤ 140737488355328) :
    Calls Try.prog 12 #[.agg #[v], .int .u64 x, .int .i64 n] w fun e w' => e = .returned (.tuple #[.int .u64 (readV xs x n), .bool (sizeV n && insideV xs.length x n)]) ∧ Grew w w' := by
  have hp : ∀ w', Buf w' v xs → Calls Try.prog 38 #[.agg #[v], .int .u64 x, .int .i64 n] w' fun e w'' => ∃ u, e = .returned (.tuple #[u, .bool (insideV xs.length x n)]) ∧ Buf w'' u (bytesV xs x n) ∧ Grew w' w'' := fun w' h => refBytes_c x n hx0 hx1 hn0 hn1 w' h hl
  obtain ⟨a, c, rfl, hc, ha⟩ := hb.shape
  have HB := Lib.hid hb
  have HP := Lib.hid hp
  have hlen := bytesV_length xs x n
  have HOK := Lib.hid (bytesV_ok hb.ok x n)
  have hk := known_c n
  cases hi : insideV xs.length x n
  · have hv : readV xs x n = 0 := by unfold readV; rw [bytesV_out hi]; split <;> simp [getV_nil]
    rw [hv, Bool.and_false]
    rw [hi] at HP
    clear hv hi hp hb hc ha hk
    go_enter Try.func12, Try.ntmps12
    go_wp2_with fail
    refine (HP.out _ (takes_box HB.out _ _)).mono ?_
    rintro e w1 ⟨u, rfl, hb1, g1⟩
    clear hb1
    go_wp2_with fail
    go_ret2
    exact ⟨rfl, ((Grew.refl w).alloc _).trans g1⟩
  · rw [hi] at HP
    cases hs : sizeV n
    · have hv : readV xs x n = 0 := by unfold readV; rw [hs]; rfl
      rw [hs] at hk
      have HK := Lib.hid hk
      rw [hv, Bool.false_and]
      clear hv hi hp hb hc ha hk hs
      go_enter Try.func12, Try.ntmps12
      go_wp2_with fail
      refine (HP.out _ (takes_box HB.out _ _)).mono ?_
      rintro e w1 ⟨u, rfl, hb1, g1⟩
      clear hb1
      go_wp2_with fail
      refine (HK.out _).mono ?_
      rintro e w2 ⟨rfl, rfl⟩
      go_wp2_with fail
      go_ret2
      exact ⟨rfl, ((Grew.refl w).alloc _).trans g1⟩
    · have hv : readV xs x n = getV (bytesV xs x n) false := by unfold readV; rw [hs]; rfl
      rw [hs] at hk
      have HK := Lib.hid hk
      rw [hv, Bool.true_and]
      generalize bytesV xs x n = zs at *
      generalize hg : getV zs false = y at *
      have HG := Lib.hid hg
      clear hv hi hp hb hc ha hk hs hg
      go_enter Try.func12, Try.ntmps12
      go_wp2_with fail
      refine (HP.out _ (takes_box HB.out _ _)).mono ?_
      rintro e w1 ⟨u, rfl, hb1, g1⟩
      have HB1 := Lib.hid hb1
      clear hb1
      go_wp2_with fail
      refine (HK.out _).mono ?_
      rintro e w2 ⟨rfl, rfl⟩
      go_wp2_with fail
      refine (refGet_c false HOK.out (by omega) _ HB1.out.bytes).mono ?_
      rintro e w2 ⟨rfl, h2⟩
      obtain rfl := h2.symm
      rw [HG.out]
      go_wp2_with fail
      go_ret2
      exact ⟨rfl, ((Grew.refl w).alloc _).trans g1⟩
end Go.Proofs.Ytoehdhhodidehaa
