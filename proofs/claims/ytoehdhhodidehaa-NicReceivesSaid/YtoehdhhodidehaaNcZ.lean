/-
  Plain facts of sends in a row: how many there are, and where the last one stands.
-/
import Derived.Test.YtoehdhhodidehaaRows
import Derived.Test.YtoehdhhodidehaaNcY
import Derived.WalkKit
import Derived.Outline
import Derived.Handy
import Derived.StillTailTactics
import Derived.Deep.QuietTactic
import Derived.BigQuiet
import Derived.Deep.DeepCutAuto
import Derived.Deep.RegionHeld3
import Derived.Great.BuildSlice
import Derived.Deep.WholeRow
import Derived.Lib.SliceRun
import Derived.BigFrame
set_option maxRecDepth 4000
set_option linter.unusedVariables false
set_option linter.unusedSimpArgs false
namespace Go.Proofs.Ytoehdhhodidehaa
open Go.RowKit

/-- How many descriptors wait. -/
def remT (c : Nat → Int) : Int := if bitB 1 (c 0) then (if c 5 ≤ c 6 then c 6 - c 5 else c 6 - c 5 + c 4) else 0
theorem remT_le {c : Nat → Int} (h : ROk c) : 0 ≤ remT c ∧ remT c ≤ c 4 - 1 := by
  have h4 := h.r4
  have h5 := h.r5
  have h6 := h.r6
  unfold remT
  split
  · split <;> omega
  · omega
theorem headt_rem {c d : Nat → Int} (h : ROk c) (hb : bitB 1 (c 0) = true) (hne : c 5 ≠ c 6) (e0 : d 0 = c 0) (e4 : d 4 = c 4) (e5 : d 5 = c 5) (e6 : d 6 = c 6) : remT (headt d) + 1 ≤ remT c := by
  have h4 := h.r4
  have h5 := h.r5
  have h6 := h.r6
  have k0 : headt d 0 = c 0 := e0
  have k4 : headt d 4 = c 4 := e4
  have k6 : headt d 6 = c 6 := e6
  have k5 : headt d 5 = (c 5 + 1) % c 4 := by show (d 5 + 1) % d 4 = _; rw [e4, e5]
  unfold remT
  rw [k0, k4, k5, k6, hb]
  simp only [if_true]
  by_cases hl : c 5 + 1 < c 4
  · rw [Int.emod_eq_of_lt (by omega) hl]
    split <;> split <;> omega
  · have e : c 5 + 1 = c 4 := by omega
    rw [e, Int.emod_self]
    split <;> split <;> omega
theorem sendR_4 (c : Nat → Int) (xs : List Int) : (sendR c xs).c 4 = c 4 := by
  unfold sendR
  repeat' split
  all_goals rfl
theorem sendR_rem {c : Nat → Int} (h : ROk c) (xs : List Int) (hb : (sendR c xs).b = true) : remT (sendR c xs).c + 1 ≤ remT c := by
  have h4 := h.r4
  have h5 := h.r5
  have h6 := h.r6
  unfold sendR at hb ⊢
  cases hw : waitst c
  · rw [hw] at hb; cases hb
  have hk : bitB 1 (c 0) = true ∧ c 5 ≠ c 6 := by unfold waitst at hw; simp at hw; exact hw
  rw [hw] at hb
  simp only [if_true] at hb ⊢
  cases hin : insideV xs.length (atT c) 16
  · simp only [Bool.false_eq_true, if_false]
    have k : bitB 1 (broket c 0) = false := by
      have e : broket c 0 = c 0 - 1 := rfl
      rw [e]
      have := hk.1
      unfold bitB at *
      simp at this ⊢
      omega
    unfold remT
    rw [k, hk.1]
    simp only [Bool.false_eq_true, if_false, if_true]
    split <;> omega
  rw [hin] at hb
  simp only [if_true] at hb ⊢
  cases hown : ownB (bytesV xs (atT c) 16)
  · rw [hown] at hb; cases hb
  simp only [if_true]
  split
  · exact headt_rem h hk.1 hk.2 rfl rfl rfl rfl
  · exact headt_rem h hk.1 hk.2 rfl rfl rfl rfl
theorem getV_1 (b : Int) : getV [b] false = b := by simp [getV, getTo, placeV]
theorem getV_2 (a b : Int) : getV [a, b] false = a + b * 256 := by simp [getV, getTo, placeV]
theorem cut_1 {xs : List Int} {lo : Nat} (h : lo + 1 ≤ xs.length) : cutL xs lo (lo + 1) = [xs.getD lo 0] := by
  apply List.ext_getElem?
  intro i
  simp only [cutL, show lo + 1 - lo = 1 by omega]
  match i with
  | 0 => rw [List.getElem?_take_of_lt (by omega), List.getElem?_drop, List.getD_eq_getElem?_getD, Nat.add_zero, List.getElem?_eq_getElem (show lo < xs.length by omega)]; rfl
  | i + 1 => rw [List.getElem?_eq_none (by rw [List.length_take]; omega)]; rfl
theorem cut_2 {xs : List Int} {lo : Nat} (h : lo + 2 ≤ xs.length) : cutL xs lo (lo + 2) = [xs.getD lo 0, xs.getD (lo + 1) 0] := by
  apply List.ext_getElem?
  intro i
  simp only [cutL, show lo + 2 - lo = 2 by omega]
  match i with
  | 0 => rw [List.getElem?_take_of_lt (by omega), List.getElem?_drop, List.getD_eq_getElem?_getD, Nat.add_zero, List.getElem?_eq_getElem (show lo < xs.length by omega)]; rfl
  | 1 =>
    rw [List.getElem?_take_of_lt (by omega), List.getElem?_drop]
    show xs[lo + 1]? = some (xs.getD (lo + 1) 0)
    rw [List.getD_eq_getElem?_getD, List.getElem?_eq_getElem (show lo + 1 < xs.length by omega)]; rfl
  | i + 2 => rw [List.getElem?_eq_none (by rw [List.length_take]; omega)]; rfl
theorem inside16 {m : Nat} {x : Int} (h : insideV m x 16 = true) : ∃ lo : Nat, x = 2147483648 + (lo : Int) ∧ lo + 16 ≤ m := by
  obtain ⟨lo, k, rfl, hk, hlo⟩ := insideV_no h
  exact ⟨lo, rfl, by omega⟩
theorem bytesV_getD {xs : List Int} {lo i : Nat} (h : lo + 16 ≤ xs.length) (hi : i < 16) : (bytesV xs (2147483648 + (lo : Int)) 16).getD i 0 = xs.getD (lo + i) 0 := by
  rw [show (16 : Int) = ((16 : Nat) : Int) from rfl, bytesV_in h, cutL_getD (by omega)]
/-- The flags' low byte, read alone. -/
theorem flag_read {xs : List Int} {x : Int} (h : insideV xs.length x 16 = true) : insideV xs.length (x + 10) 1 = true ∧ readV xs (x + 10) 1 = (bytesV xs x 16).getD 10 0 := by
  obtain ⟨lo, rfl, hlo⟩ := inside16 h
  have e : (2147483648 + (lo : Int) + 10) = 2147483648 + ((lo + 10 : Nat) : Int) := by omega
  rw [e, show (1 : Int) = ((1 : Nat) : Int) from rfl, insideV_at]
  refine ⟨decide_eq_true (by omega), ?_⟩
  unfold readV
  rw [show sizeV ((1 : Nat) : Int) = true from rfl, if_pos rfl, bytesV_in (by omega), cut_1 (by omega), getV_1, bytesV_getD hlo (by decide)]
theorem own_flag {ds : List Int} (_h : AreBytes ds) (h16 : ds.length = 16) : ownB ds = bitB 1 (ds.getD 10 0) := by
  unfold ownB
  rw [show (12 : Nat) = 10 + 2 from rfl, cut_2 (by omega), getV_2]
  unfold bitB
  rw [Int.ediv_one, Int.ediv_one]
  congr 1
  omega
theorem sendR_stop {c : Nat → Int} {xs : List Int} (hx : AreBytes xs) (hb : (sendR c xs).b = false) : c 5 = c 6 ∨ c 0 % 2 = 0 ∨ (insideV xs.length (c 3 + 16 * c 5 + 10) 1 = true ∧ readV xs (c 3 + 16 * c 5 + 10) 1 % 2 = 0) := by
  unfold sendR at hb
  cases hw : waitst c
  · unfold waitst at hw
    simp only [Bool.and_eq_false_iff] at hw
    rcases hw with h | h
    · right; left
      unfold bitB at h
      rw [Int.ediv_one] at h
      have : c 0 % 2 ≠ 1 := by simpa using h
      omega
    · left; simpa using h
  rw [hw] at hb
  simp only [if_true] at hb
  cases hin : insideV xs.length (atT c) 16
  · rw [hin] at hb; cases hb
  rw [hin] at hb
  simp only [if_true] at hb
  cases hown : ownB (bytesV xs (atT c) 16)
  · right; right
    have h16 := bytesV_16 hin
    rw [own_flag (bytesV_ok hx _ _) h16] at hown
    obtain ⟨h1, h2⟩ := flag_read hin
    unfold atT at h1 h2 hown
    refine ⟨h1, ?_⟩
    rw [h2]
    unfold bitB at hown
    rw [Int.ediv_one] at hown
    have : ¬ ((bytesV xs (c 3 + 16 * c 5) 16).getD 10 0 % 2 = 1) := by simpa using hown
    omega
  rw [hown] at hb
  simp only [if_true] at hb
  split at hb <;> cases hb
theorem readV_nn {xs : List Int} (h : AreBytes xs) (x n : Int) : 0 ≤ readV xs x n := by
  unfold readV
  split
  · exact (getV_lt (bytesV_ok h _ _) false).1
  · exact Int.le_refl _
theorem drain_meas {t : Int} {k : Nat} (h : (k : Int) ≤ t - 1) (hw : wrap64 ((k : Int) + 1) = (k : Int) + 1) : (t + 1).toNat - (intOf (.int .i64 (wrap64 ((k : Int) + 1)))).toNat < (t + 1).toNat - (intOf (.int .i64 (k : Int))).toNat := by
  rw [hw]
  show (t + 1).toNat - ((k : Int) + 1).toNat < (t + 1).toNat - ((k : Int)).toNat
  omega
/-- k sends in a row. -/
def sendK (c : Nat → Int) (xs : List Int) : Nat → SR
  | 0 => ⟨c, xs, [], true⟩
  | k + 1 => sendR (sendK c xs k).c (sendK c xs k).xs
theorem sendK_ok {c : Nat → Int} (h : ROk c) (xs : List Int) (k : Nat) : ROk (sendK c xs k).c := by
  induction k with
  | zero => exact h
  | succ k ih => exact ih.send _
theorem sendK_len (c : Nat → Int) (xs : List Int) (k : Nat) : (sendK c xs k).xs.length = xs.length := by
  induction k with
  | zero => rfl
  | succ k ih => exact (sendR_len _ _).trans ih
theorem sendK_mac {c : Nat → Int} {m : List Int} (h : ROk c) (hm : MacOf c m) (xs : List Int) (k : Nat) : MacOf (sendK c xs k).c m := by
  induction k with
  | zero => exact hm
  | succ k ih => exact ih.of (sendK_ok h xs (k + 1)) (sendR_13 _ _) (sendR_14 _ _)
theorem sendK_4 (c : Nat → Int) (xs : List Int) (k : Nat) : (sendK c xs k).c 4 = c 4 := by
  induction k with
  | zero => rfl
  | succ k ih => exact (sendR_4 _ _).trans ih
theorem sendK_many {c : Nat → Int} (h : ROk c) (xs : List Int) (k : Nat) (hk : ∀ j, j < k → (sendK c xs (j + 1)).b = true) : (k : Int) ≤ c 4 - 1 := by
  have key : ∀ k, (∀ j, j < k → (sendK c xs (j + 1)).b = true) → remT (sendK c xs k).c + k ≤ remT c := by
    intro k
    induction k with
    | zero => intro _; show remT c + ((0 : Nat) : Int) ≤ _; omega
    | succ k ih =>
      intro hk
      have h1 := ih fun j hj => hk j (by omega)
      have h2 := sendR_rem (sendK_ok h xs k) _ (hk k (by omega))
      have e : (sendK c xs (k + 1)) = sendR (sendK c xs k).c (sendK c xs k).xs := rfl
      rw [e]
      omega
  have h1 := key k hk
  have h2 := remT_le h
  have h3 := remT_le (sendK_ok h xs k)
  omega
theorem step_st_rm {ops : Array Oper} {TT : Array Value} {o : Oper} {a : Act} {w : World} {K : Act → World → Prop} {Q : Exit → Act → World → Prop} {E : Prop} (hgd : o.guard = none) (x y : Operand) (ho : o.op = .store 27 x y) (hd : o.dst = none) {g : Nat} {u : Value} {old : Array Value} {T : TypeId}
    (k : Blk w g old T) (hold : old.size = 1) (hx : a.eval x = .pointer (some ⟨g, 0, none⟩)) (hy : a.eval y = .agg #[u]) (hu : ∃ b n m, u = .slice b n m)
    (h : ∀ w', Blk w' g #[u] T → Only w w' g → K a w') : if Region.wanted o (yielded ops TT) = true then Oper.wp Try.prog o a w K Q else E := by
  have hw : Region.wanted o (yielded ops TT) = true := by simp [Region.wanted, hgd]
  rw [if_pos hw]
  obtain ⟨b, n, m, rfl⟩ := hu
  refine wp_store_row _ x y ho g #[.slice b n m] hx hy T old k rmInfo hold (by simp [Value.oneCell']) ?_
  rw [hd]
  exact h _ (Blk.setRow k) (Only.setRow _ _ _)
theorem var_rm {w : World} {g : Nat} {u : Value} {T : TypeId} (k : Blk w g #[u] T) : (loadVar 27 ⟨g, 0, none⟩).run Try.prog w = .ok (.agg #[u]) w :=
  run_loadVar_row w g T _ #[u] (0, 0) _ k Try.underlying27 rfl rmInfo
theorem yl_rm {ops : Array Oper} {S : World → Prop} {o : Oper} {a : Act} {x : Operand} {g : Nat} {u : Value} {T : TypeId} (ho : o.op = .load 27 x) (hw : Region.wanted o (yielded ops a.tmps) = true) (hx : a.eval x = .pointer (some ⟨g, 0, none⟩)) (k : ∀ w, S w → Blk w g #[u] T) :
    YieldsIf Try.prog ops S o (.agg #[u]) a := by
  refine Or.inl ⟨hw, fun w hSw => ?_⟩
  unfold execOp
  simp only [ho, hx, Instr.loadAt, Instr.sureAddr, Sem.run_bind, Sem.run_pure, Result.andThen_ok, var_rm (k w hSw)]
end Go.Proofs.Ytoehdhhodidehaa
