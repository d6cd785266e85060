/-
  slices.Concat over rows of bytes: what it answers reads as all of them behind one another, and is the call's own. For every later stage that puts bytes together so.
-/
import Derived.Test.YtnafdgpkofffaaaDoorBuf
import Derived.Test.YtnafdgpkofffaaaDoorBufs
import Derived.Test.YtnafdgpkofffaaaDoorDeps
import Derived.Lib.AppendZeros
import Derived.Handy
import Derived.WalkKit
set_option maxRecDepth 4000
set_option linter.unusedVariables false
set_option linter.unusedSimpArgs false
namespace Go.Proofs.YtnafdgpkofffaaaDoor
open Go.RowKit

/-- Grow of nil: room alone. -/
theorem grow_c (n : Nat) (hn : n ≤ 140737488355328) (w : World) :
    Calls Tryd.prog 30 #[.slice none 0 0, .int .i64 n] w fun e w' => ∃ v, e = .returned v ∧ Row w' w.heap.size v [] ∧ Grew w w' := by
  obtain ⟨i0, hi, hz0, hz1, hz2⟩ := info_parts u8_info
  by_cases h0 : n = 0
  · subst h0
    go_enter Tryd.func30, Tryd.ntmps30
    go_wp2_with fail
    go_ret
    exact ⟨_, rfl, Row.nil _ _, Grew.refl _⟩
  · have hpos : 0 < n := by omega
    have hrun : ∀ (w : World) ty, (Builtin.append_ #[22, 3] ty #[.slice none 0 0, .int .i64 n]).run Tryd.prog w = .ok (.slice (some ⟨w.heap.size, 0, none⟩) n (grownCap w n 0 5)) (w.drew.alloc (.cells (Builtin.zeroCells (Value.int .u8 0).cells n ++ Builtin.zeroCells (Value.int .u8 0).cells (grownCap w n 0 5 - n)) 5)) := fun w ty =>
      Lib.run_append_nil_zeros w 22 3 ty 5 i0 _ .i64 .i64 Tryd.underlying22 Tryd.underlying3 hi hz0 n hpos (by omega) (by omega) (by rw [hz2]; omega)
    have HR := Lib.hid hrun
    have hc : n ≤ grownCap w n 0 5 := grownCap_ge w n 0 _
    have hm : grownCap w n 0 5 ≤ maxLen := grownCap_le_maxLen w _ _ _ (by unfold maxLen; omega)
    generalize hg : grownCap w n 0 5 = C at *
    have hrun0 := hrun w
    rw [hg] at hrun0
    have HRR := Lib.hid hrun0
    have HM := Lib.hid hm
    have HG := Lib.hid hg
    have h1 : (0 : Int) < n := by omega
    clear hrun hrun0 hg hm h0
    go_enter Tryd.func30, Tryd.ntmps30
    go_wp2_with (refine Lib.wpList_append_run _ rfl (.tmp 20) (.tmp 21) 22 3 rfl _ _ rfl rfl _ _ (HRR.out _) ?_)
    go_ret
    refine ⟨_, rfl, ?_, ((Grew.refl w).alloc _).drew1⟩
    show World.ownsRow _ _ _ _ _ _ _
    refine ⟨by simp, .inr ⟨w.heap.size, C, _, rfl, Nat.le_refl _, heap_alloc_new w _, Nat.zero_le _, HM.out, ?_, by simp⟩⟩
    have e1 : (Value.int IntKind.u8 0).cells.size = 1 := rfl
    simp only [Array.size_append, size_zeroCells, List.size_toArray, List.length_cons, List.length_nil]
    omega

/-- What the first k rows are, behind one another. -/
def catTo (xss : List (List Int)) (k : Nat) : List Int := (xss.take k).flatten
theorem catTo_zero (xss : List (List Int)) : catTo xss 0 = [] := rfl
theorem catTo_succ (xss : List (List Int)) (k : Nat) (h : k < xss.length) : catTo xss (k + 1) = catTo xss k ++ xss.getD k [] := by
  unfold catTo
  rw [List.take_add_one, List.getD_eq_getElem?_getD, List.getElem?_eq_getElem h, List.flatten_append]
  simp
theorem catTo_all (xss : List (List Int)) : catTo xss xss.length = xss.flatten := by simp [catTo]
theorem catTo_le (xss : List (List Int)) (k : Nat) : (catTo xss k).length ≤ xss.flatten.length := by
  have : xss.flatten = catTo xss k ++ (xss.drop k).flatten := by rw [catTo, ← List.flatten_append, List.take_append_drop]
  rw [this, List.length_append]; omega
theorem Bufs.flat_ok {w : World} {v : Value} {xss : List (List Int)} (h : Bufs w v xss) : AreBytes xss.flatten := by
  intro x hx
  obtain ⟨xs, h1, h2⟩ := List.mem_flatten.1 hx
  obtain ⟨i, hi, e⟩ := List.getElem_of_mem h1
  obtain ⟨a, c, _, ha⟩ := h.shape
  obtain ⟨b, off, _, _, hat⟩ := ha (by intro e; subst e; simp at h1)
  obtain ⟨u, _, hB⟩ := hat i hi
  rw [List.getD_eq_getElem?_getD, List.getElem?_eq_getElem hi, e] at hB
  exact hB.ok x h2

/-- A literal of rows, just made. -/
theorem Bufs.ofBlk {w : World} {b : Nat} {cs : Array Value} {T : TypeId} (h : Blk w b cs T) (xss : List (List Int)) (n c : Nat) (hn : n = xss.length) (hl : xss.length ≤ maxLen) (H : ∀ i, i < xss.length → ∃ u, cs[i]? = some u ∧ Buf w u (xss.getD i [])) : Bufs w (.slice (some ⟨b, 0, none⟩) n c) xss := by
  subst hn
  refine ⟨⟨_, c, rfl, fun _ => ⟨b, 0, rfl, h.lt, fun i hi => ?_⟩⟩, hl⟩
  obtain ⟨u, h1, h2⟩ := H i hi
  exact ⟨u, by rw [h.cell, Nat.zero_add]; exact h1, h2⟩

set_option maxHeartbeats 1000000 in
theorem concat_c {v : Value} {xss : List (List Int)} (w : World) (hV : Bufs w v xss) (hl : xss.flatten.length ≤ 140737488355328) :
    Calls Tryd.prog 18 #[v] w fun e w' => ∃ u, e = .returned u ∧ Row w' w.heap.size u xss.flatten ∧ Grew w w' := by
  obtain ⟨a, c, rfl, ha⟩ := hV.shape
  have hm := hV.len
  unfold maxLen at hm
  obtain ⟨m, hM⟩ : ∃ m, m = xss.length := ⟨_, rfl⟩
  rw [← hM] at hm ha ⊢
  have HM := Lib.hid hM
  have HA := Lib.hid ha
  have HL := Lib.hid hl
  clear ha hM hV hl
  go_enter Tryd.func18, Tryd.ntmps18
  go_upto_region 3 with fail
  go_loop [3, 11] (fun s i => ∃ k : Nat, k ≤ m ∧ i = .int .i64 k ∧ s = .int .i64 (catTo xss k).length) (fun _ i => m - (intOf i).toNat)
  case atStart => exact ⟨0, Nat.zero_le _, rfl, rfl⟩
  case round =>
    obtain ⟨k, hk, rfl, rfl⟩ := hrel
    have hle := catTo_le xss k
    have hLL := HL.out
    by_cases hlt : k < m
    · have hlt' : (k : Int) < (m : Nat) := by omega
      obtain ⟨b, off, rfl, hbl, hat⟩ := HA.out (by intro e; have := HM.out; subst e; simp at this; omega)
      obtain ⟨u, hu, hB⟩ := hat k hlt
      obtain ⟨q1, q2, rfl, hq, _⟩ := hB.shape
      have hs := catTo_succ xss k (by rw [← HM.out]; exact hlt)
      have hle' := catTo_le xss (k + 1)
      have hsl : (catTo xss (k + 1)).length = (catTo xss k).length + (xss.getD k []).length := by rw [hs, List.length_append]
      have HS := Lib.hid hsl
      have hb1 : ((catTo xss k).length : Int) + (xss.getD k []).length ≤ 140737488355328 := by omega
      clear hs hle hle' hLL hsl hat
      generalize (xss.getD k []).length = L at *
      generalize hT : (catTo xss k).length = T at *
      have HT := Lib.hid hT
      clear hT
      go_wp2_with fail
      go_round
      case rel => exact ⟨k + 1, by omega, by go_num, by rw [HS.out]; go_num⟩
      case measure => simp [intOf]; omega
    · obtain rfl : k = m := by omega
      have hT := hle
      go_wp2_with fail
      refine (grow_c _ (by omega) _).mono ?_
      rintro e w1 ⟨v1, rfl, hr1, g1⟩
      have HR1 := Lib.hid hr1
      clear hr1 hle hT hLL
      go_upto_region 11 with fail
      go_loopw [6, 27] (fun v i wr => ∃ j : Nat, j ≤ k ∧ i = .int .i64 j ∧ Hid (Row wr w.heap.size v (catTo xss j)) ∧ Grew w wr) (fun _ i _ => k - (intOf i).toNat)
      case atStart => exact ⟨0, Nat.zero_le _, rfl, HR1, g1⟩
      case round =>
        clear HR1 g1
        obtain ⟨j, hj, rfl, HR, g⟩ := hrel
        by_cases hlt : j < k
        · have hlt' : (j : Int) < (k : Nat) := by omega
          obtain ⟨b, off, rfl, hbl, hat⟩ := HA.out (by intro e; have := HM.out; subst e; simp at this; omega)
          obtain ⟨u, hu, hB⟩ := hat j hlt
          have HU := Lib.hid (hB.grew g)
          have hs := catTo_succ xss j (by rw [← HM.out]; exact hlt)
          have hle' := catTo_le xss (j + 1)
          have hsl : (catTo xss j).length + (xss.getD j []).length ≤ 140737488355328 := by rw [hs, List.length_append] at hle'; have := HL.out; omega
          have c0 : wr.cell? ⟨b, off + j, none⟩ = some u := by rw [(gcell g).1 b _ hbl]; exact hu
          have HS := Lib.hid hs
          have HSL := Lib.hid hsl
          clear hs hle' hsl hat hu hB
          go_wp2_with (refine wpList_append_b rfl (.tmp 31) (.tmp 32) rfl g HR.out HU.out (by rfl) (by rfl) HSL.out ?_; intro v2 w2 HR2 g2 _)
          go_roundw
          case rel => exact ⟨j + 1, by omega, by go_num, Lib.hid (by rw [HS.out]; exact HR2.out), g2⟩
          case measure => simp [intOf]; omega
        · obtain rfl : j = k := by omega
          go_wp2_with fail
          go_ret
          refine ⟨_, rfl, ?_, g⟩
          have h := HR.out
          rw [HM.out, catTo_all] at h
          exact h
theorem concat_b {v : Value} {xss : List (List Int)} (w : World) (hV : Bufs w v xss) (hl : xss.flatten.length ≤ 140737488355328) :
    Calls Tryd.prog 18 #[v] w fun e w' => ∃ u, e = .returned u ∧ Row w' w.heap.size u xss.flatten ∧ Buf w' u xss.flatten ∧ Grew w w' :=
  (concat_c w hV hl).mono fun _ _ ⟨u, he, hr, hg⟩ => ⟨u, he, hr, hr.buf hV.flat_ok, hg⟩
end Go.Proofs.YtnafdgpkofffaaaDoor
