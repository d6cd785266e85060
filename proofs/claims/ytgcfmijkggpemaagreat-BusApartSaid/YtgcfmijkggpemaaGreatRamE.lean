/-
  Contracts of the document's own memory: Fill, Write, New, Same.
-/
import Derived.Test.YtgcfmijkggpemaaGreatRows
import Derived.Test.YtgcfmijkggpemaaGreatRamD
import Derived.WalkKit
import Derived.Outline
import Derived.Handy
import Derived.StillTailTactics
import Derived.Deep.QuietTactic
import Derived.BigQuiet
import Derived.Deep.DeepCutAuto
import Derived.Deep.RegionHeld3
set_option maxRecDepth 4000
set_option linter.unusedVariables false
set_option linter.unusedSimpArgs false
namespace Go.Proofs.YtgcfmijkggpemaaGreat
open Go.RowKit

/-! ### Fill -/
theorem lay_cuts {xs ys : List Int} {lo : Nat} : [] ++ cutL xs 0 lo ++ ys ++ cutL xs (lo + ys.length) xs.length = lay xs lo ys := by
  simp only [cutL, lay, List.nil_append, List.drop_zero, Nat.sub_zero, List.append_assoc]
  rw [List.take_of_length_le (l := xs.drop (lo + ys.length)) (by rw [List.length_drop]; omega)]


/-! ### Write -/


/-! ### New -/

/-! ### Same -/
theorem same01_b {v u : Value} {xs ys : List Int} (w : World) (hv : Buf w v xs) (hu : Buf w u ys) (he : xs = ys) :
    Calls Tryz.prog 14 #[v, u] w fun e w' => e = .returned (.bool true) ∧ w = w' := by
  subst he
  exact (same_c w hv.bytes hu.bytes).mono fun _ _ ⟨h1, h2⟩ => ⟨h1, h2.symm⟩
theorem same_b {v u : Value} {xs ys : List Int} (w : World) (hv : Buf w v xs) (hu : Buf w u ys) (he : xs = ys) :
    Calls Tryz.prog 16 #[.agg #[v], .agg #[u]] w fun e w' => e = .returned (.bool true) ∧ Grew w w' := by
  subst he
  obtain ⟨a, c, rfl, _, _⟩ := hv.shape
  obtain ⟨a2, c2, rfl, _, _⟩ := hu.shape
  have e1 := convert_bytes (takes_box (takes_box hv #[.slice a xs.length c] 24) #[.slice a2 xs.length c2] 24).bytes
  have e2 := convert_bytes (takes_box (takes_box hu #[.slice a xs.length c] 24) #[.slice a2 xs.length c2] 24).bytes
  clear hv hu
  go_enter Tryz.func16, Tryz.ntmps16
  go_wp2_with fail
  go_ret
  exact ⟨rfl, ((Grew.refl w).alloc _).alloc _⟩
end Go.Proofs.YtgcfmijkggpemaaGreat
