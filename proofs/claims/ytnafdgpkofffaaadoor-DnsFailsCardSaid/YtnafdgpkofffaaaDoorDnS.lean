/-
  The law's own text in small letters; a parameter that is a text.
-/
import Derived.Test.YtnafdgpkofffaaaDoorDnQ
import Derived.WalkMore
import Derived.LoopTactic
import Derived.ChangeMaps5
set_option maxRecDepth 4000
set_option linter.unusedVariables false
set_option linter.unusedSimpArgs false
namespace Go.Proofs.YtnafdgpkofffaaaDoor
open Go.RowKit

theorem lowL_ok {xs : List Int} (h : AreBytes xs) : AreBytes (lowL xs) := fun z hz => by
  obtain ⟨c, hc, rfl⟩ := List.mem_map.1 hz
  exact letV_lt (h c hc)
theorem lowL_snoc {xs : List Int} {k : Nat} (h : k < xs.length) : lowL (xs.take (k + 1)) = lowL (xs.take k) ++ [(letV (xs.getD k 0)).1] := by
  have e : xs.take (k + 1) = xs.take k ++ [xs.getD k 0] := by
    rw [List.take_add_one, List.getD_eq_getElem?_getD, List.getElem?_eq_getElem h]
    rfl
  rw [e, lowL_app]
  rfl
theorem lowL_last {xs : List Int} (h : 0 < xs.length) : (lowL xs).getD (xs.length - 1) 0 = (letV (xs.getD (xs.length - 1) 0)).1 := by
  simp only [lowL, List.getD_eq_getElem?_getD, List.getElem?_map, List.getElem?_eq_getElem (show xs.length - 1 < xs.length by omega)]
  rfl
theorem letV_dot (c : Int) : (letV c).1 = 46 ↔ c = 46 := by
  unfold letV
  split
  · constructor
    · intro h; simp only at h; omega
    · intro h; omega
  · exact Iff.rfl
theorem low_trim (xs : List Int) : lowL (trimV xs) = if 0 < (lowL xs).length ∧ (lowL xs).getD (xs.length - 1) 0 = 46 then cutL (lowL xs) 0 (xs.length - 1) else lowL xs := by
  unfold trimV
  rw [lowL_len]
  by_cases h : 0 < xs.length
  · rw [lowL_last h]
    by_cases h2 : xs.getD (xs.length - 1) 0 = 46
    · rw [if_pos ⟨h, h2⟩, if_pos ⟨h, (letV_dot _).2 h2⟩]
      simp [lowL, cutL, List.map_take]
    · rw [if_neg (fun hh => h2 hh.2), if_neg (fun hh => h2 ((letV_dot _).1 hh.2))]
  · rw [if_neg (fun hh => h hh.1), if_neg (fun hh => h hh.1)]
theorem open_str {H : Type} {enc : TypeId × Value → H} {W : World} {r : Reach} {b0 base : Nat} {spare : Nat → Bool} {held : Bool} {v : Value} {d : DataW H} {ps : List MemPlace} (hval : Value.okWide Tryd.prog W r b0 9 v) (h : DataW.Trod enc Tryd.prog W base spare held 9 v d ps) : ∃ xs : List Int, v = .string (strOfNums xs) ∧ AreBytes xs ∧ xs.length ≤ maxLen := by
  obtain ⟨s, rfl, _, _, hs⟩ := ChangeMaps.open_string Tryd.underlying9 hval h
  exact ⟨numsOf s, by rw [strOf_nums], numsOf_ok s, by rw [numsOf_len]; exact hs⟩
set_option maxHeartbeats 4000000 in
theorem small_c {xs : List Int} (hxo : AreBytes xs) (hl : xs.length ≤ 2000) (w : World) :
    Calls Tryd.prog 10 #[.string (strOfNums xs)] w fun e w' => e = .returned (.string (strOfNums (lowL (trimV xs)))) ∧ Grew w w' := by
  obtain ⟨n, hn⟩ : ∃ n, n = xs.length := ⟨_, rfl⟩
  have hsz : (strOfNums xs).size = n := by rw [strOf_size, hn]
  have HIX := Lib.hid (fun (kk : IntKind) (k : Nat) (h : k < n) (w : World) => str_index hxo kk k (by rw [← hn]; exact h) w)
  have HN := Lib.hid hn
  have HO := Lib.hid hxo
  have HL := Lib.hid hl
  have hn2 : n ≤ 2000 := by omega
  clear hn hl hxo
  generalize strOfNums xs = SS at *
  go_enter Tryd.func10, Tryd.ntmps10
  go_upto_region 3 with fail
  go_loopw [3, 4] (fun v i wr => ∃ k : Nat, k ≤ n ∧ i = .int .i64 k ∧ Hid (Row wr w.heap.size v (lowL (xs.take k))) ∧ Hid (Grew w wr)) (fun _ i _ => n - (intOf i).toNat)
  case atStart => exact ⟨0, Nat.zero_le _, rfl, Lib.hid (Row.nil _ _), Lib.hid (Grew.refl _)⟩
  case round =>
    obtain ⟨k, hk, rfl, HR, HG⟩ := hrel
    by_cases hlt : k < n
    · have hlt' : (k : Int) < (n : Nat) := by omega
      have hx := HIX.out .i64 k hlt
      have hz := HO.out.getD k
      have HS := Lib.hid (lowL_snoc (xs := xs) (k := k) (by rw [← HN.out]; exact hlt))
      have hll := Lib.hid (show (lowL (xs.take k)).length ≤ 2000 by rw [lowL_len, List.length_take]; omega)
      have hc9 : ((letV (xs.getD k 0)).1 = xs.getD k 0 + 32 ∧ decide (65 ≤ xs.getD k 0) = true ∧ decide (xs.getD k 0 ≤ 90) = true) ∨ ((letV (xs.getD k 0)).1 = xs.getD k 0 ∧ decide (65 ≤ xs.getD k 0) = true ∧ decide (xs.getD k 0 ≤ 90) = false) ∨ ((letV (xs.getD k 0)).1 = xs.getD k 0 ∧ decide (65 ≤ xs.getD k 0) = false) := by
        unfold letV
        by_cases h1 : 65 ≤ xs.getD k 0
        · by_cases h2 : xs.getD k 0 ≤ 90
          · exact .inl ⟨by rw [if_pos ⟨h1, h2⟩], decide_eq_true h1, decide_eq_true h2⟩
          · exact .inr (.inl ⟨by rw [if_neg (fun h => h2 h.2)], decide_eq_true h1, decide_eq_false h2⟩)
        · exact .inr (.inr ⟨by rw [if_neg (fun h => h1 h.1)], decide_eq_false h1⟩)
      have hlz := letV_lt hz
      generalize (letV (xs.getD k 0)).1 = z at *
      generalize xs.getD k 0 = c at *
      rcases hc9 with ⟨e1, d1, d2⟩ | ⟨e1, d1, d2⟩ | ⟨e1, d1⟩
      · have ew : IntKind.u8.wrap (c + 32) = z := by
          have := of_decide_eq_true d2
          rw [wrap_u8, e1]
          omega
        clear e1
        go_upto_region 8 with fail
        have hlit := Row.lit wr wr.heap.size (Nat.le_refl _) #[.int .u8 z] [z] rfl (by unfold maxLen; simp) _ rfl 1 rfl
        have HLB := Lib.hid (hlit.buf (fun y hy => by rw [List.mem_singleton.1 hy]; exact hlz))
        have HRA := Lib.hid (HR.out.alloc (.cells #[.int .u8 z] 5))
        have HGA := Lib.hid (HG.out.alloc (.cells #[.int .u8 z] 5))
        clear hlit HR HG
        go_wp2_with (refine wpList_append_b (W := w) rfl (.tmp 23) (.tmp 25) rfl HGA.out HRA.out HLB.out (by rfl) (by rfl) (by have := hll.out; simp; omega) ?_; intro v5 w5 R5 g5 y5; clear y5)
        have HR5 := Lib.hid (show Row w5 w.heap.size v5 (lowL (xs.take (k + 1))) from by rw [HS.out]; exact R5.out)
        have HG5 := Lib.hid g5
        clear R5 g5
        go_wp2_with fail
        go_roundw
        case rel => exact ⟨k + 1, by omega, by go_num, HR5, HG5⟩
        case measure => simp [intOf]; omega
      · subst e1
        go_upto_region 8 with fail
        have hlit := Row.lit wr wr.heap.size (Nat.le_refl _) #[.int .u8 z] [z] rfl (by unfold maxLen; simp) _ rfl 1 rfl
        have HLB := Lib.hid (hlit.buf (fun y hy => by rw [List.mem_singleton.1 hy]; exact hlz))
        have HRA := Lib.hid (HR.out.alloc (.cells #[.int .u8 z] 5))
        have HGA := Lib.hid (HG.out.alloc (.cells #[.int .u8 z] 5))
        clear hlit HR HG
        go_wp2_with (refine wpList_append_b (W := w) rfl (.tmp 23) (.tmp 25) rfl HGA.out HRA.out HLB.out (by rfl) (by rfl) (by have := hll.out; simp; omega) ?_; intro v5 w5 R5 g5 y5; clear y5)
        have HR5 := Lib.hid (show Row w5 w.heap.size v5 (lowL (xs.take (k + 1))) from by rw [HS.out]; exact R5.out)
        have HG5 := Lib.hid g5
        clear R5 g5
        go_wp2_with fail
        go_roundw
        case rel => exact ⟨k + 1, by omega, by go_num, HR5, HG5⟩
        case measure => simp [intOf]; omega
      · subst e1
        go_upto_region 8 with fail
        have hlit := Row.lit wr wr.heap.size (Nat.le_refl _) #[.int .u8 z] [z] rfl (by unfold maxLen; simp) _ rfl 1 rfl
        have HLB := Lib.hid (hlit.buf (fun y hy => by rw [List.mem_singleton.1 hy]; exact hlz))
        have HRA := Lib.hid (HR.out.alloc (.cells #[.int .u8 z] 5))
        have HGA := Lib.hid (HG.out.alloc (.cells #[.int .u8 z] 5))
        clear hlit HR HG
        go_wp2_with (refine wpList_append_b (W := w) rfl (.tmp 23) (.tmp 25) rfl HGA.out HRA.out HLB.out (by rfl) (by rfl) (by have := hll.out; simp; omega) ?_; intro v5 w5 R5 g5 y5; clear y5)
        have HR5 := Lib.hid (show Row w5 w.heap.size v5 (lowL (xs.take (k + 1))) from by rw [HS.out]; exact R5.out)
        have HG5 := Lib.hid g5
        clear R5 g5
        go_wp2_with fail
        go_roundw
        case rel => exact ⟨k + 1, by omega, by go_num, HR5, HG5⟩
        case measure => simp [intOf]; omega
    · obtain rfl : k = n := by omega
      have hfull := HR.out
      rw [show xs.take k = xs from List.take_of_length_le (by have := HN.out; omega)] at hfull
      have hbf := hfull.buf (lowL_ok HO.out)
      have hll : (lowL xs).length = k := by rw [lowL_len, HN.out]
      have HT : Hid (lowL (trimV xs) = if 0 < k ∧ (lowL xs).getD (k - 1) 0 = 46 then cutL (lowL xs) 0 (k - 1) else lowL xs) := Lib.hid (by
        have h := low_trim xs
        rw [hll, ← HN.out] at h
        exact h)
      have HG2 := Lib.hid HG.out
      obtain ⟨a, c, rfl, _, ha⟩ := hbf.shape
      rw [hll] at hbf ⊢
      clear HR HG hfull hlt hk
      by_cases h0 : 0 < k
      · have h0' : (0 : Int) < (k : Int) := by omega
        obtain ⟨bk, off, rfl, hat⟩ := ha (by intro h; rw [h] at hll; simp at hll; omega)
        have x0 := hat (k - 1) (by rw [hll]; omega)
        have hk1 : wrap64 ((k : Int) - 1) = ((k - 1 : Nat) : Int) := by rw [IntWalk.wrap64_in _ (by omega)]; omega
        have hk2 : IntKind.i64.wrap ((k : Int) - 1) = ((k - 1 : Nat) : Int) := by rw [IntWalk.i64_in _ (by omega)]; omega
        have hk3 : ((k - 1 : Nat) : Int) < (k : Int) := by omega
        cases h46 : ((lowL xs).getD (k - 1) 0 == 46)
        · have hc := convert_bytes hbf.bytes
          have HE := Lib.hid (show lowL (trimV xs) = lowL xs by rw [HT.out, if_neg (fun h => by simp at h46; exact h46 h.2)])
          clear hat ha HT
          have hy0 : 0 ≤ (lowL xs).getD (k - 1) 0 := (hbf.ok.getD _).1
          generalize (lowL xs).getD (k - 1) 0 = y at *
          go_wp2_with fail
          go_ret
          rw [HE.out]
          exact ⟨rfl, HG2.out⟩
        · obtain ⟨a', c', hcut, s1, s2, hrun, s4⟩ := hbf.run_cut (lo := 0) (hi := k - 1) (by omega) (by omega)
          have hr := hrun rfl .i64
          rw [Nat.sub_zero] at hr hcut
          have hc := convert_bytes hcut.bytes
          have HE := Lib.hid (show lowL (trimV xs) = cutL (lowL xs) 0 (k - 1) by rw [HT.out, if_pos ⟨h0, by simpa using h46⟩])
          clear s1 s2 s4 hrun hcut hat ha HT hbf
          generalize (lowL xs).getD (k - 1) 0 = y at *
          go_wp2_with fail
          go_ret
          rw [HE.out]
          exact ⟨rfl, HG2.out⟩
      · obtain rfl : k = 0 := by omega
        have hc := convert_bytes hbf.bytes
        have HE := Lib.hid (show lowL (trimV xs) = lowL xs by rw [HT.out, if_neg (fun h => h0 h.1)])
        clear ha HT hbf h0
        go_wp2_with fail
        go_ret
        rw [HE.out]
        exact ⟨rfl, HG2.out⟩
end Go.Proofs.YtnafdgpkofffaaaDoor
