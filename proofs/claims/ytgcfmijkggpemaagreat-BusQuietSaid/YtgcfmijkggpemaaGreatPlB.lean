/-
  Package plic: contracts of its small functions: isLevel, isSources, only, isRow, Check.
-/
import Derived.Test.YtgcfmijkggpemaaGreatPlA
import Derived.Test.YtgcfmijkggpemaaGreatInts
import Derived.Test.YtgcfmijkggpemaaGreatClass
import Derived.WalkKit
import Derived.Outline
import Derived.Handy
import Derived.Deep.QuietTactic
import Derived.BigQuiet
import Derived.Deep.RegionHeld3
import Derived.Deep.DeepCutAuto
set_option maxRecDepth 4000
set_option linter.unusedVariables false
set_option linter.unusedSimpArgs false
namespace Go.Proofs.YtgcfmijkggpemaaGreat
open Go.RowKit

theorem isLevel_c (x : Int) (w : World) : Calls Tryz.prog 66 #[.int .i64 x] w fun e w' => e = .returned (.bool (lvl x)) ∧ w = w' := by
  unfold lvl
  cases h0 : decide (0 ≤ x) <;> cases h1 : decide (x < 8)
  all_goals
    go_enter Tryz.func66, Tryz.ntmps66
    go_wp2_with fail
    go_ret
    exact ⟨rfl, rfl⟩
theorem isSources_c (x : Int) (w : World) : Calls Tryz.prog 67 #[.int .i64 x] w fun e w' => e = .returned (.bool (src x)) ∧ w = w' := by
  unfold src
  go_enter Tryz.func67, Tryz.ntmps67
  go_wp2_with fail
  go_ret
  exact ⟨rfl, rfl⟩
/-- A function of the package that tells of ints whether they may be. -/
structure Tells (F : FuncId) (q : Int → Bool) : Prop where
  enter : ∀ (x : Int) (w : World), (callFunc F #[.int .i64 x]).run Tryz.prog w = .ok (.enter F #[.int .i64 x]) w
  calls : ∀ (x : Int) (w : World), Calls Tryz.prog F #[.int .i64 x] w fun e w' => e = .returned (.bool (q x)) ∧ w = w'
theorem row1_c {F : FuncId} {q : Int → Bool} (hF : Tells F q) (x : Int) {D : Nat} {T : TypeId} {w : World} (hb : Blk w D #[.func (.func F) #[] #[]] T) :
    Calls Tryz.prog 93 #[.int .i64 x, .pointer (some ⟨D, 0, none⟩)] w fun e w' => e = .returned (.bool (!q x)) ∧ w = w' := by
  have c0 := hb.cell 0
  have HF := Lib.hid (hF.calls x)
  have he := hF.enter x
  generalize q x = b at *
  clear hF hb
  go_enter Tryz.func93, Tryz.ntmps93
  go_wp2_with fail
  refine (HF.out _).mono ?_
  rintro e w' ⟨rfl, rfl⟩
  go_wp2_with fail
  go_ret
  exact ⟨rfl, rfl⟩
theorem all_no {xs : List Int} {q : Int → Bool} {k : Nat} (hk : k < xs.length) (h : q (xs.getD k 0) = false) : xs.all q = false := by
  rw [List.all_eq_false]
  refine ⟨xs[k], List.getElem_mem hk, ?_⟩
  rw [List.getD_eq_getElem?_getD, List.getElem?_eq_getElem hk] at h
  simpa using h
theorem all_yes {xs : List Int} {q : Int → Bool} (h : ∀ j, j < xs.length → q (xs.getD j 0) = true) : xs.all q = true := by
  rw [List.all_eq_true]
  intro x hx
  obtain ⟨i, hi, rfl⟩ := List.getElem_of_mem hx
  have := h i hi
  rwa [List.getD_eq_getElem?_getD, List.getElem?_eq_getElem hi] at this
set_option maxHeartbeats 1000000 in
theorem index_c {F : FuncId} {q : Int → Bool} (hF : Tells F q) {D : Nat} {T : TypeId} {w : World} (hb : Blk w D #[.func (.func F) #[] #[]] T) {v : Value} {xs : List Int} (hv : Ints.Buf w v xs) :
    Calls Tryz.prog 109 #[v, .func (.func 93) #[] #[.pointer (some ⟨D, 0, none⟩)]] w fun e w' => ∃ r : Int, e = .returned (.int .i64 r) ∧ decide (0 ≤ r) = (!xs.all q) ∧ w = w' := by
  obtain ⟨a, c, rfl, hc, ha⟩ := hv.shape
  have hlen := hv.len
  unfold maxLen at hlen
  have hl9 : xs.length ≤ 9223372036854775807 := by omega
  have hcell : xs ≠ [] → ∃ b off, a = some ⟨b, off, none⟩ ∧ ∀ i, i < xs.length → w.cell? ⟨b, off + i, none⟩ = some (.int .i64 (xs.getD i 0)) := ha
  have HA := Lib.hid hcell
  have hC := fun x => row1_c hF x hb
  have HC := Lib.hid hC
  clear hcell ha hv hlen hc hF hC hb
  go_enter Tryz.func109, Tryz.ntmps109
  go_wp2_with fail
  go_loop [8] (fun i => ∃ k : Nat, k ≤ xs.length ∧ i = .int .i64 k ∧ Hid (∀ j, j < k → q (xs.getD j 0) = true)) (fun i => xs.length - (intOf i).toNat)
  case atStart => exact ⟨0, Nat.zero_le _, rfl, Lib.hid fun j hj => by omega⟩
  case round =>
    obtain ⟨k, hk, rfl, HQ⟩ := hrel
    by_cases hlt : k < xs.length
    · obtain ⟨b, off, rfl, hcs⟩ := HA.out (by intro h; subst h; simp at hlt)
      have c0 := hcs k hlt
      have hq : ∀ b, q (xs.getD k 0) = b → (b = false → xs.all q = false) ∧ (b = true → ∀ j, j < k + 1 → q (xs.getD j 0) = true) := fun b hb => ⟨fun h => all_no hlt (by rw [hb, h]), fun h j hj => by
        by_cases e : j = k
        · rw [e, hb, h]
        · exact HQ.out j (by omega)⟩
      have hCk := HC.out (xs.getD k 0)
      generalize hx : xs.getD k 0 = x at *
      generalize q x = y at *
      have HQ' := Lib.hid (hq y rfl)
      have HCk := Lib.hid hCk
      clear hcs hx hq hCk HA
      cases y
      · go_wp2_with ((refine (HCk.out).mono ?_; rintro e w' ⟨rfl, rfl⟩))
        go_ret
        exact ⟨k, rfl, by rw [(HQ'.out).1 (by first | trivial | rfl)]; simp, rfl⟩
      · go_wp2_with ((refine (HCk.out).mono ?_; rintro e w' ⟨rfl, rfl⟩))
        go_round
        case rel => exact ⟨k + 1, by omega, by go_num, Lib.hid ((HQ'.out).2 (by first | trivial | rfl))⟩
        case measure => simp [intOf]; omega
    · obtain rfl : k = xs.length := by omega
      go_wp2_with fail
      go_ret
      exact ⟨-1, rfl, by rw [all_yes HQ.out]; simp, rfl⟩
theorem contains_c {F : FuncId} {q : Int → Bool} (hF : Tells F q) {D : Nat} {T : TypeId} {w : World} (hb : Blk w D #[.func (.func F) #[] #[]] T) {v : Value} {xs : List Int} (hv : Ints.Buf w v xs) :
    Calls Tryz.prog 92 #[v, .func (.func 93) #[] #[.pointer (some ⟨D, 0, none⟩)]] w fun e w' => e = .returned (.bool (!xs.all q)) ∧ w = w' := by
  have HC := Lib.hid (index_c hF hb hv)
  generalize (!xs.all q) = y at *
  clear hF hb hv
  go_enter Tryz.func92, Tryz.ntmps92
  go_wp2_with fail
  refine (HC.out).mono ?_
  rintro e w' ⟨r, rfl, hr, rfl⟩
  go_wp2_with fail
  go_ret
  exact ⟨rfl, rfl⟩
theorem isRow_c {F : FuncId} {q : Int → Bool} (hF : Tells F q) (n : Nat) (hn : n ≤ 100) {W w : World} (g : Grew W w) {v : Value} {xs : List Int} (hv : Ints.Buf w v xs) :
    Calls Tryz.prog 65 #[v, .int .i64 n, .func (.func F) #[] #[]] w fun e w' => e = .returned (.bool (xs.length == n && xs.all q)) ∧ Grew W w' := by
  have hC := fun (w1 : World) (g1 : Grew w w1) (D : Nat) T (hb : Blk w1 D #[.func (.func F) #[] #[]] T) => contains_c hF hb (hv.grew g1)
  obtain ⟨a, c, rfl, _, _⟩ := hv.shape
  have hlen := hv.len
  unfold maxLen at hlen
  have HC := Lib.hid hC
  generalize xs.all q = y at *
  clear hC hv hF
  cases hl : (xs.length == n)
  · have hl' : (((xs.length : Nat) : Int) == (n : Int)) = false := by simp at hl ⊢; omega
    go_enter Tryz.func65, Tryz.ntmps65
    go_wp2_with fail
    go_ret
    exact ⟨rfl, g.alloc _⟩
  · have hl' : (((xs.length : Nat) : Int) == (n : Int)) = true := by simp at hl ⊢; omega
    go_enter Tryz.func65, Tryz.ntmps65
    go_wp2_with (go_at_call 92; refine (HC.out _ ((Grew.refl w).alloc _) _ _ (Blk.new _ _ _ _ rfl)).mono ?_; rintro e w' ⟨rfl, rfl⟩)
    go_ret
    exact ⟨by simp, g.alloc _⟩
theorem tells_level : Tells 66 lvl := ⟨fun _ _ => by kernel_rfl, isLevel_c⟩
theorem tells_src : Tells 67 src := ⟨fun _ _ => by kernel_rfl, isSources_c⟩
end Go.Proofs.YtgcfmijkggpemaaGreat
