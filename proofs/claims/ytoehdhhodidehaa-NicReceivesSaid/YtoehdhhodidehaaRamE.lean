/-
  Contracts of the document's own memory: Fill, Write, New, Same.
-/
import Derived.Test.YtoehdhhodidehaaRows
import Derived.Test.YtoehdhhodidehaaRamD
import Derived.WalkKit
import Derived.Outline
import Derived.Handy
import Derived.StillTailTactics
import Derived.Deep.QuietTactic
import Derived.BigQuiet
import Derived.Deep.DeepCutAuto
import Derived.Deep.RegionHeld3
set_option maxRecDepth 4000
set_option linter.unusedVariables false
set_option linter.unusedSimpArgs false
namespace Go.Proofs.Ytoehdhhodidehaa
open Go.RowKit

/-! ### Fill -/
theorem lay_cuts {xs ys : List Int} {lo : Nat} : [] ++ cutL xs 0 lo ++ ys ++ cutL xs (lo + ys.length) xs.length = lay xs lo ys := by
  simp only [cutL, lay, List.nil_append, List.drop_zero, Nat.sub_zero, List.append_assoc]
  rw [List.take_of_length_le (l := xs.drop (lo + ys.length)) (by rw [List.length_drop]; omega)]
set_option maxHeartbeats 1000000 in
theorem refFill_yes {a a2 : Option Addr} {c c2 : Nat} {xs ys : List Int} (lo : Nat) (h : lo + ys.length ≤ xs.length) (w : World) (hb : Buf w (.slice a xs.length c) xs) (hu : Buf w (.slice a2 ys.length c2) ys) (hl : xs.length ≤ 140737488355328) :
    Calls Try.prog 32 #[.agg #[.slice a xs.length c], .int .u64 (2147483648 + (lo : Int)), .slice a2 ys.length c2] w fun e w' => ∃ u, e = .returned (.tuple #[.agg #[u], .bool true]) ∧ Buf w' u (lay xs lo ys) ∧ Grew w w' := by
  have hm := hb.len
  obtain ⟨a3, c3, hcut1, _, _, hr1, _⟩ := hb.run_cut (lo := 0) (hi := lo) (by omega) (by omega)
  obtain ⟨a4, c4, hcut2, _, _, _, hr2⟩ := hb.run_cut (lo := lo + ys.length) (hi := xs.length) (by omega) (by omega)
  have hr1 := hr1 rfl
  have hr2 := hr2 rfl
  rw [Nat.sub_zero] at hcut1 hr1
  generalize hn4 : xs.length - (lo + ys.length) = n4 at *
  have HC1 := Lib.hid hcut1
  have HC2 := Lib.hid hcut2
  have HL := Lib.hid (lay_cuts (xs := xs) (ys := ys) (lo := lo))
  have hlo : (cutL xs 0 lo).length = lo := by rw [cutL_length (by omega) (by omega)]; omega
  have hl2 : (cutL xs (lo + ys.length) xs.length).length = n4 := by rw [cutL_length (by omega) (by omega), hn4]
  have HLO := Lib.hid hlo
  have HL2 := Lib.hid hl2
  have HOK := Lib.hid (hb.ok.lay hu.ok lo)
  have hv : insideV xs.length (2147483648 + (lo : Int)) ys.length = true := by rw [insideV_at]; exact decide_eq_true h
  obtain ⟨x, hx⟩ : ∃ x : Int, x = 2147483648 + (lo : Int) := ⟨_, rfl⟩
  have hr1' : ∀ w', (Instr.sliceAt 23 (.slice a xs.length c) none (some (.int .i64 (x - 2147483648))) none).run Try.prog w' = .ok (.slice a3 lo c3) w' := fun w' => by
    rw [show x - 2147483648 = (lo : Int) by omega]; exact hr1 .i64 w'
  have hr2' : ∀ w', (Instr.sliceAt 23 (.slice a xs.length c) (some (.int .i64 (x - 2147483648 + (ys.length : Int)))) none none).run Try.prog w' = .ok (.slice a4 n4 c4) w' := fun w' => by
    rw [show x - 2147483648 + (ys.length : Int) = ((lo + ys.length : Nat) : Int) by omega]; exact hr2 .i64 w'
  unfold maxLen at hm
  have b1 : 2147483648 ≤ x := by omega
  have b2 : x - 2147483648 + (ys.length : Int) ≤ 9223372036854775807 := by omega
  have b3 : x < 18446744073709551616 := by omega
  have hin : ∀ w, Calls Try.prog 50 #[.agg #[.slice a xs.length c], .int .u64 x, .int .i64 ys.length] w fun e w' => e = .returned (.bool true) ∧ Grew w w' := fun w => by
    have := refInside_c a xs.length c x ys.length (by unfold maxLen; omega) (by omega) (by omega) (by omega) (by omega) w
    rw [show insideV xs.length x ys.length = true by rw [hx]; exact hv] at this
    exact this
  have HIN := Lib.hid hin
  have HU := Lib.hid hu
  have HB := Lib.hid hb
  rw [← hx]
  have hlen1 : ([] : List Int).length + (cutL xs 0 lo).length ≤ 140737488355328 := by rw [hlo]; simp; omega
  have hlen2 : ([] ++ cutL xs 0 lo).length + ys.length ≤ 140737488355328 := by rw [List.nil_append, hlo]; omega
  have hlen3 : ([] ++ cutL xs 0 lo ++ ys).length + (cutL xs (lo + ys.length) xs.length).length ≤ 140737488355328 := by rw [List.nil_append, List.length_append, hlo, hl2]; omega
  have HL1 := Lib.hid hlen1
  have HLN2 := Lib.hid hlen2
  have HL3 := Lib.hid hlen3
  generalize lay xs lo ys = ls at *
  generalize hX1 : cutL xs 0 lo = X1 at *
  generalize hX2 : cutL xs (lo + ys.length) xs.length = X2 at *
  have HW := Lib.hid hr1'
  clear hX1 hX2 hx hin hr1 hr2 hv hcut1 hcut2 hb hu hlo hl2 hlen1 hlen2 hlen3 hn4 h HW
  go_enter Try.func32, Try.ntmps32
  go_upto_region 1 with fail
  have hB0 : Blk ((w.alloc (.cells #[.slice a xs.length c] 27)).alloc (.cells #[.slice none 0 0] 27)) w.heap.size #[.slice a xs.length c] 27 := (Blk.new _ _ _ _ rfl).alloc _
  have hR0 : Blk ((w.alloc (.cells #[.slice a xs.length c] 27)).alloc (.cells #[.slice none 0 0] 27)) (w.heap.size + 1) #[.slice none 0 0] 27 := Blk.new _ _ _ _ (by simp)
  have hg0 : Grew w ((w.alloc (.cells #[.slice a xs.length c] 27)).alloc (.cells #[.slice none 0 0] 27)) := ((Grew.refl w).alloc _).alloc _
  generalize ((w.alloc (.cells #[.slice a xs.length c] 27)).alloc (.cells #[.slice none 0 0] 27)) = W0 at *
  have cB0 := hB0.cell 0
  go_wp2_with fail
  refine (HIN.out _).mono ?_
  rintro e w1 ⟨rfl, g1⟩
  have hB1 := hB0.grew g1
  have hR1 := hR0.grew g1
  have hg1 := hg0.trans g1
  have cB1 := hB1.cell 0
  have hltB := hB1.lt
  have hltR := hR1.lt
  clear cB0
  go_upto_region 4 with fail
  have hw : IntKind.i64.wrap (x - 2147483648 + (ys.length : Int)) = x - 2147483648 + (ys.length : Int) := IntWalk.i64_in _ (by omega)
  have HROW := Lib.hid (Row.lit w1.drew w1.heap.size (Nat.le_refl _) #[] [] rfl (Nat.zero_le _) _ rfl 0 rfl)
  go_region_held3 (fun w' => w'.cell? ⟨w.heap.size, 0, none⟩ = some (.slice a xs.length c)) (go_keep)
    (first
      | (refine step_append_b (W := w1) rfl (.tmp 19) (.tmp 23) rfl (by exact (Grew.refl w1).drew1.alloc _) HROW.out ((HC1.out.grew hg1).grew ((Grew.refl w1).drew1.alloc _)) (by rfl) (by rfl) HL1.out ?_; intro v5 w5 HR5 g5 q5; clear q5; have c5 : w5.cell? ⟨w.heap.size, 0, none⟩ = some (.slice a xs.length c) := ((hB1.grew g5).cell 0).trans rfl)
      | (refine step_append_b (W := w1) rfl (.tmp 24) (.tmp 25) rfl g5 HR5.out ((HU.out.grew hg1).grew g5) (by rfl) (by rfl) HLN2.out ?_; intro v6 w6 HR6 g6 q6; clear q6; have c6 : w6.cell? ⟨w.heap.size, 0, none⟩ = some (.slice a xs.length c) := ((hB1.grew g6).cell 0).trans rfl)
      | (refine step_append_b (W := w1) rfl (.tmp 26) (.tmp 33) rfl g6 HR6.out ((HC2.out.grew hg1).grew g6) (by rfl) (by rfl) HL3.out ?_; intro v7 w7 HR7 g7 q7; clear q7; have HB7 := Lib.hid (HR7.out.buf (by rw [HL.out]; exact HOK.out)); obtain ⟨a7, n7, k7, e7⟩ : ∃ a n k, v7 = .slice a n k := (let ⟨a, k, e, _⟩ := HB7.out.shape; ⟨a, _, k, e⟩); subst e7; have c7 : w7.cell? ⟨w.heap.size, 0, none⟩ = some (.slice a xs.length c) := ((hB1.grew g7).cell 0).trans rfl; have cR := (hR1.grew g7).cell 0; have fR := (hR1.grew g7).free 0))
  go_wp2_with fail
  have hset := ((hR1.grew g7).set (o := 0) (.slice a7 n7 k7)).cell 0
  have hrow := (HR7.out.set (c := w.heap.size + 1) (o := 0) hltR (.slice a7 n7 k7)).buf (by rw [HL.out]; exact HOK.out)
  rw [HL.out] at hrow
  exact bodyPost_ret (v := .tuple #[.agg #[.slice a7 n7 k7], .bool true]) (by simp [results, Try.results32, go_sem, hset]) rfl ⟨_, rfl, hrow, (hg1.trans g7).setCell (by omega) _⟩

theorem refFill_no {a a2 : Option Addr} {m c n2 c2 : Nat} (x : Int) (hm : m ≤ maxLen) (hn : n2 ≤ maxLen) (hx0 : 0 ≤ x) (hx1 : x < 18446744073709551616) (h : insideV m x n2 = false) (w : World) :
    Calls Try.prog 32 #[.agg #[.slice a m c], .int .u64 x, .slice a2 n2 c2] w fun e w' => e = .returned (.tuple #[.agg #[.slice a m c], .bool false]) ∧ Grew w w' := by
  have hn' := hn
  unfold maxLen at hn
  have hin : ∀ w, Calls Try.prog 50 #[.agg #[.slice a m c], .int .u64 x, .int .i64 n2] w fun e w' => e = .returned (.bool false) ∧ Grew w w' := fun w => by
    have := refInside_c a m c x n2 hm hx0 hx1 (by omega) (by omega) w
    rwa [h] at this
  have HIN := Lib.hid hin
  clear hin h
  go_enter Try.func32, Try.ntmps32
  go_upto_region 1 with fail
  have hB0 : Blk ((w.alloc (.cells #[.slice a m c] 27)).alloc (.cells #[.slice none 0 0] 27)) w.heap.size #[.slice a m c] 27 := (Blk.new _ _ _ _ rfl).alloc _
  have hR0 : Blk ((w.alloc (.cells #[.slice a m c] 27)).alloc (.cells #[.slice none 0 0] 27)) (w.heap.size + 1) #[.slice none 0 0] 27 := Blk.new _ _ _ _ (by simp)
  have hg0 : Grew w ((w.alloc (.cells #[.slice a m c] 27)).alloc (.cells #[.slice none 0 0] 27)) := ((Grew.refl w).alloc _).alloc _
  generalize ((w.alloc (.cells #[.slice a m c] 27)).alloc (.cells #[.slice none 0 0] 27)) = W0 at *
  have cB0 := hB0.cell 0
  go_wp2_with fail
  refine (HIN.out _).mono ?_
  rintro e w1 ⟨rfl, g1⟩
  have hR1 := hR0.grew g1
  have cB1 := (hB0.grew g1).cell 0
  have cR1 := hR1.cell 0
  have fR1 := hR1.free 0
  go_wp2_with fail
  have hset := (hR1.set (o := 0) (.slice a m c)).cell 0
  exact bodyPost_ret (v := .tuple #[.agg #[.slice a m c], .bool false]) (by simp [results, Try.results32, go_sem, hset]) rfl ⟨rfl, (hg0.trans g1).setCell (by omega) _⟩
theorem refFill_c {v u : Value} {xs ys : List Int} (x : Int) (hx0 : 0 ≤ x) (hx1 : x < 18446744073709551616) (w : World) (hb : Buf w v xs) (hu : Buf w u ys) (hl : xs.length ≤ 140737488355328) :
    Calls Try.prog 32 #[.agg #[v], .int .u64 x, u] w fun e w' => ∃ r, e = .returned (.tuple #[.agg #[r], .bool (insideV xs.length x ys.length)]) ∧ Buf w' r (fillV xs x ys) ∧ Grew w w' := by
  obtain ⟨a, c, rfl, _, _⟩ := hb.shape
  obtain ⟨a2, c2, rfl, _, _⟩ := hu.shape
  cases hv : insideV xs.length x ys.length
  · refine (refFill_no x hb.len hu.len hx0 hx1 hv w).mono ?_
    rintro e w' ⟨rfl, g⟩
    exact ⟨_, rfl, by unfold fillV; rw [hv]; exact hb.grew g, g⟩
  · obtain ⟨lo, k, rfl, hk, h⟩ := insideV_no hv
    refine (refFill_yes lo (by omega) w hb hu hl).mono ?_
    rintro e w' ⟨r, rfl, hb', g⟩
    refine ⟨r, rfl, ?_, g⟩
    unfold fillV
    rw [hv, show (2147483648 + (lo : Int) - 2147483648).toNat = lo by omega]
    exact hb'

/-! ### Write -/


/-! ### New -/

/-! ### Same -/
theorem same01_b {v u : Value} {xs ys : List Int} (w : World) (hv : Buf w v xs) (hu : Buf w u ys) (he : xs = ys) :
    Calls Try.prog 26 #[v, u] w fun e w' => e = .returned (.bool true) ∧ w = w' := by
  subst he
  exact (same_c w hv.bytes hu.bytes).mono fun _ _ ⟨h1, h2⟩ => ⟨h1, h2.symm⟩
theorem same_b {v u : Value} {xs ys : List Int} (w : World) (hv : Buf w v xs) (hu : Buf w u ys) (he : xs = ys) :
    Calls Try.prog 25 #[.agg #[v], .agg #[u]] w fun e w' => e = .returned (.bool true) ∧ Grew w w' := by
  subst he
  obtain ⟨a, c, rfl, _, _⟩ := hv.shape
  obtain ⟨a2, c2, rfl, _, _⟩ := hu.shape
  have e1 := convert_bytes (takes_box (takes_box hv #[.slice a xs.length c] 27) #[.slice a2 xs.length c2] 27).bytes
  have e2 := convert_bytes (takes_box (takes_box hu #[.slice a xs.length c] 27) #[.slice a2 xs.length c2] 27).bytes
  clear hv hu
  go_enter Try.func25, Try.ntmps25
  go_wp2_with fail
  go_ret
  exact ⟨rfl, ((Grew.refl w).alloc _).alloc _⟩
end Go.Proofs.Ytoehdhhodidehaa
