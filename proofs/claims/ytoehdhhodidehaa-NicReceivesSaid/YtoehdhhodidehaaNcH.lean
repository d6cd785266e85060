/-
  Package nic: which frames a controller takes (takes).
-/
import Derived.Test.YtoehdhhodidehaaRows
import Derived.Test.YtoehdhhodidehaaNcC
import Derived.WalkKit
import Derived.Outline
import Derived.Handy
import Derived.StillTailTactics
import Derived.Deep.QuietTactic
import Derived.BigQuiet
import Derived.Deep.DeepCutAuto
import Derived.Deep.RegionHeld3
import Derived.Great.BuildSlice
import Derived.Deep.WholeRow
import Derived.Lib.SliceRun
import Derived.Lib.Bytes
set_option maxRecDepth 4000
set_option linter.unusedVariables false
set_option linter.unusedSimpArgs false
namespace Go.Proofs.Ytoehdhhodidehaa
open Go.RowKit

theorem strOfNums_inj {xs ys : List Int} (hx : AreBytes xs) (hy : AreBytes ys) (h1 : (xs.map fun n => UInt8.ofNat n.toNat) = ys.map fun n => UInt8.ofNat n.toNat) : xs = ys := by
  have k : ∀ zs : List Int, AreBytes zs → (zs.map fun n => UInt8.ofNat n.toNat).map (fun u => (u.toNat : Int)) = zs := fun zs h => by
    rw [List.map_map]
    conv => rhs; rw [← List.map_id zs]
    apply List.map_congr_left
    intro x hx
    have := h x hx
    simp only [Function.comp, id]
    rw [UInt8.toNat_ofNat']
    omega
  rw [← k xs hx, h1, k ys hy]
def sameB (xs ys : List Int) : Bool := decide (xs = ys)
theorem sameB_str {xs ys : List Int} (hx : AreBytes xs) (hy : AreBytes ys) : ((strOfNums xs).toList == (strOfNums ys).toList) = sameB xs ys := by
  unfold sameB
  rw [Lib.strOfNums_toList, Lib.strOfNums_toList]
  by_cases h : xs = ys
  · subst h; simp
  · rw [decide_eq_false h]
    have : Lib.bytesOf xs ≠ Lib.bytesOf ys := fun e => h (strOfNums_inj hx hy e)
    simpa using this
theorem Equal_c {v u : Value} {xs ys : List Int} {w : World} (hv : Buf w v xs) (hu : Buf w u ys) : Calls Try.prog 81 #[v, u] w fun e w' => e = .returned (.bool (sameB xs ys)) ∧ w = w' := by
  have e1 := convert_bytes hv.bytes
  have e2 := convert_bytes hu.bytes
  have he := Lib.hid (sameB_str hv.ok hu.ok)
  clear hv hu
  go_enter Try.func81, Try.ntmps81
  go_wp2_with fail
  go_ret
  exact ⟨ret_bool he.out, rfl⟩
theorem is255_c (x : Int) (w : World) : Calls Try.prog 86 #[.int .u8 x] w fun e w' => e = .returned (.bool (x != 255)) ∧ w = w' := by
  go_enter Try.func86, Try.ntmps86
  go_wp2_with fail
  go_ret
  exact ⟨rfl, rfl⟩
theorem enter255 (x : Int) (w : World) : (callFunc 86 #[.int .u8 x]).run Try.prog w = .ok (.enter 86 #[.int .u8 x]) w := by kernel_rfl
def allFF (xs : List Int) : Bool := xs.all fun x => x == 255
theorem allFF_no {xs : List Int} {k : Nat} (hk : k < xs.length) (h : (xs.getD k 0 != 255) = true) : allFF xs = false := by
  unfold allFF
  rw [List.all_eq_false]
  refine ⟨xs[k], List.getElem_mem hk, ?_⟩
  rw [List.getD_eq_getElem?_getD, List.getElem?_eq_getElem hk] at h
  simpa using h
theorem allFF_yes {xs : List Int} (h : ∀ j, j < xs.length → (xs.getD j 0 != 255) = false) : allFF xs = true := by
  unfold allFF
  rw [List.all_eq_true]
  intro x hx
  obtain ⟨i, hi, rfl⟩ := List.getElem_of_mem hx
  have := h i hi
  rw [List.getD_eq_getElem?_getD, List.getElem?_eq_getElem hi] at this
  simpa using this
set_option maxHeartbeats 1000000 in
theorem index255_c {w : World} {v : Value} {xs : List Int} (hv : Buf w v xs) :
    Calls Try.prog 87 #[v, .func (.func 86) #[] #[]] w fun e w' => ∃ r : Int, e = .returned (.int .i64 r) ∧ decide (0 ≤ r) = (!allFF xs) ∧ w = w' := by
  obtain ⟨a, c, rfl, hc, ha⟩ := hv.shape
  have hlen := hv.len
  unfold maxLen at hlen
  have hl9 : xs.length ≤ 9223372036854775807 := by omega
  have HA := Lib.hid ha
  have HC := Lib.hid is255_c
  have hE := enter255
  clear ha hv hlen hc
  go_enter Try.func87, Try.ntmps87
  go_wp2_with fail
  go_loop [8] (fun i => ∃ k : Nat, k ≤ xs.length ∧ i = .int .i64 k ∧ Hid (∀ j, j < k → (xs.getD j 0 != 255) = false)) (fun i => xs.length - (intOf i).toNat)
  case atStart => exact ⟨0, Nat.zero_le _, rfl, Lib.hid fun j hj => by omega⟩
  case round =>
    obtain ⟨k, hk, rfl, HQ⟩ := hrel
    by_cases hlt : k < xs.length
    · obtain ⟨b, off, rfl, hcs⟩ := HA.out (by intro h; subst h; simp at hlt)
      have c0 := hcs k hlt
      have hq : ∀ b, (xs.getD k 0 != 255) = b → (b = true → allFF xs = false) ∧ (b = false → ∀ j, j < k + 1 → (xs.getD j 0 != 255) = false) := fun b hb => ⟨fun h => allFF_no hlt (by rw [hb, h]), fun h j hj => by
        by_cases e : j = k
        · rw [e, hb, h]
        · exact HQ.out j (by omega)⟩
      have hCk := HC.out (xs.getD k 0)
      generalize hx : xs.getD k 0 = x at *
      generalize (x != 255) = y at *
      have HQ' := Lib.hid (hq y rfl)
      have HCk := Lib.hid hCk
      clear hcs hx hq hCk HA
      cases y
      · go_wp2_with ((refine (HCk.out _).mono ?_; rintro e w' ⟨rfl, rfl⟩))
        go_round
        case rel => exact ⟨k + 1, by omega, by go_num, Lib.hid ((HQ'.out).2 (by first | trivial | rfl))⟩
        case measure => simp [intOf]; omega
      · go_wp2_with ((refine (HCk.out _).mono ?_; rintro e w' ⟨rfl, rfl⟩))
        go_ret
        exact ⟨k, rfl, by rw [(HQ'.out).1 (by first | trivial | rfl)]; simp, rfl⟩
    · obtain rfl : k = xs.length := by omega
      go_wp2_with fail
      go_ret
      exact ⟨-1, rfl, by rw [allFF_yes HQ.out]; simp, rfl⟩
theorem contains255_c {w : World} {v : Value} {xs : List Int} (hv : Buf w v xs) :
    Calls Try.prog 85 #[v, .func (.func 86) #[] #[]] w fun e w' => e = .returned (.bool (!allFF xs)) ∧ w = w' := by
  have HC := Lib.hid (index255_c hv)
  generalize (!allFF xs) = y at *
  clear hv
  go_enter Try.func85, Try.ntmps85
  go_wp2_with fail
  refine (HC.out).mono ?_
  rintro e w' ⟨r, rfl, hr, rfl⟩
  go_wp2_with fail
  go_ret
  exact ⟨rfl, rfl⟩
theorem isForAll_c {w : World} {v : Value} {xs : List Int} (hv : Buf w v xs) :
    Calls Try.prog 82 #[v] w fun e w' => e = .returned (.bool (allFF xs)) ∧ w = w' := by
  have HC := Lib.hid (contains255_c hv)
  generalize allFF xs = y at *
  clear hv
  go_enter Try.func82, Try.ntmps82
  go_wp2_with fail
  refine (HC.out).mono ?_
  rintro e w' ⟨rfl, rfl⟩
  go_wp2_with fail
  go_ret
  exact ⟨by simp, rfl⟩
def frameB (n : Int) : Bool := decide (14 ≤ n) && decide (n ≤ 1514)
/-- Is a frame for the controller of these registers? -/
def takesB (c : Nat → Int) (xs : List Int) : Bool := frameB xs.length && (bitB 4 (c 0) || sameB (cutL xs 0 6) (macL c) || allFF (cutL xs 0 6))
theorem isFrame_b (x : Int) (w : World) : Calls Try.prog 61 #[.int .i64 x] w fun e w' => e = .returned (.bool (frameB x)) ∧ w = w' := isFrame_c x w
theorem takes_no {c : Nat → Int} {p : Nat} {w : World} {v : Value} {xs : List Int} (hv : Buf w v xs) (hf : frameB xs.length = false) :
    Calls Try.prog 68 #[.pointer (some ⟨p, 0, none⟩), v] w fun e w' => e = .returned (.bool (takesB c xs)) ∧ Grew w w' := by
  have hF := isFrame_b xs.length
  unfold takesB
  rw [hf] at hF ⊢
  have HF := Lib.hid hF
  obtain ⟨a, k, rfl, hc, ha⟩ := hv.shape
  clear hF hf ha hc hv
  go_enter Try.func68, Try.ntmps68
  go_wp2_with fail
  refine (HF.out _).mono ?_
  rintro e w1 ⟨rfl, rfl⟩
  go_wp2_with fail
  go_ret
  exact ⟨rfl, Grew.refl _⟩
set_option maxHeartbeats 2000000 in
theorem takes_yes {c : Nat → Int} {p : Nat} {w : World} {v : Value} {xs : List Int} (hB : Blk w p (rgA c) 80) (hb : rgOk c) (h8 : c 0 < 8) (hv : Buf w v xs) (hf : frameB xs.length = true) :
    Calls Try.prog 68 #[.pointer (some ⟨p, 0, none⟩), v] w fun e w' => e = .returned (.bool (takesB c xs)) ∧ Grew w w' := by
  have hF := isFrame_b xs.length
  unfold takesB
  rw [hf] at hF ⊢
  have HF := Lib.hid hF
  have h14 : 14 ≤ xs.length := by unfold frameB at hf; simp at hf; omega
  obtain ⟨a, k, rfl, hc, ha⟩ := hv.shape
  obtain ⟨a1, k1, hc1, q1, q2, r1, q3⟩ := hv.run_cut (lo := 0) (hi := 6) (by omega) (by omega)
  have hr1 : ∀ w', (Instr.sliceAt 23 (.slice a xs.length k) none (some (.int .i64 6)) none).run Try.prog w' = .ok (.slice a1 6 k1) w' := fun w' => r1 rfl .i64 w'
  have HU := Lib.hid hc1
  have hH := Lib.hid (has_4 hB (hb 0 (by decide)).1 h8)
  have hM := Lib.hid (mac_c hB (hb 13 (by decide)).1 (hb 13 (by decide)).2 (hb 14 (by decide)).1 (hb 14 (by decide)).2)
  have HML := Lib.hid (macL_ok c)
  clear hF hf ha hc hv q1 q2 q3 r1 hc1 hb h8 hB
  generalize macL c = ms at *
  generalize cutL xs 0 6 = zs at *
  cases hb1 : bitB 4 (c 0) <;> cases hb2 : sameB zs ms <;> cases hb3 : allFF zs
  all_goals
    rw [hb1] at hH
    have HB2 := Lib.hid hb2
    have HB3 := Lib.hid hb3
    clear hb1 hb2 hb3
    go_enter Try.func68, Try.ntmps68
    go_wp2_with fail
    refine (HF.out _).mono ?_
    rintro e w1 ⟨rfl, rfl⟩
    go_wp2_with fail
    refine hH.out.mono ?_
    rintro e w1 ⟨rfl, rfl⟩
    try
      go_wp2_with fail
      refine hM.out.mono ?_
      rintro e w1 ⟨a2, k2, rfl, HR, g1⟩
      go_wp2_with fail
      refine (Equal_c (HU.out.grew g1) (HR.out.buf HML.out)).mono ?_
      rintro e w2 ⟨rfl, rfl⟩
      rw [HB2.out]
    try
      go_wp2_with fail
      refine (isForAll_c (by first | exact HU.out | exact HU.out.grew g1)).mono ?_
      rintro e w3 ⟨rfl, rfl⟩
      rw [HB3.out]
    go_wp2_with fail
    go_ret
    exact ⟨rfl, by first | exact g1 | exact Grew.refl _⟩
theorem takes_c {c : Nat → Int} {p : Nat} {w : World} {v : Value} {xs : List Int} (hB : Blk w p (rgA c) 80) (hb : rgOk c) (h8 : c 0 < 8) (hv : Buf w v xs) :
    Calls Try.prog 68 #[.pointer (some ⟨p, 0, none⟩), v] w fun e w' => e = .returned (.bool (takesB c xs)) ∧ Grew w w' := by
  cases hf : frameB xs.length
  · exact takes_no hv hf
  · exact takes_yes hB hb h8 hv hf
end Go.Proofs.Ytoehdhhodidehaa
