/-
  What the program's text lays gives the two sentinels (Sen); a world that meets it.
-/
import Derived.Test.YtpehfmchcjanhaaDoorCsrG
import Derived.ProofKit
import Derived.LaidMore
import Derived.OpenShut
import Derived.Stop.Joined
import Derived.Stop.LaidErr
import Derived.Stop.LaidTwo
import Derived.RowKitTokens
import Derived.JoinedOf
set_option linter.unusedVariables false
set_option linter.unusedSimpArgs false
namespace Go.Proofs.YtpehfmchcjanhaaDoor
open Go.ChangeShapes Go.WideShapes Go.ChangeAt Go.RowKit
open Go.Extern.Stop Go.Stop Go.Extern

def laid2 : List (String × DataW Unit) := [("drawbridge/csr.errNone", Rows.laid_drawbridge_csr_errNone), ("drawbridge/csr.errOnlyRead", Rows.laid_drawbridge_csr_errOnlyRead)]
theorem gNone : Tryd.prog.globalNamed "drawbridge/csr.errNone" = some 0 := by kernel_rfl
theorem gOnly : Tryd.prog.globalNamed "drawbridge/csr.errOnlyRead" = some 1 := by kernel_rfl
theorem gNoneT : (Tryd.prog.globals[0]?).map (·.type) = some 40 := by kernel_rfl
theorem gOnlyT : (Tryd.prog.globals[1]?).map (·.type) = some 40 := by kernel_rfl
theorem cellsE : Tryd.prog.cellsOf 99 = 1 := by kernel_rfl
theorem cellsS : Tryd.prog.cellsOf 9 = 1 := by kernel_rfl
theorem star : "*" ++ "errors.errorString" = "*errors.errorString" := by decide
theorem rowE (u : TypeId) (h : Tryd.prog.typeName? 3 u = some "*errors.errorString") : u = 73 :=
  typeName_ptr_named (nm := "errors.errorString") (by rw [star]; kernel_rfl) (by kernel_rfl) (by decide) u (by rw [star]; exact h)

theorem door_met (os : Os) (args : Array Value) : laidMetH Tryd.prog laid2 ((World.doorLaid Tryd.prog 400 os).forCall (fun _ _ => 0) ⟨#[], args, []⟩).memory :=
  laidMetH_of_parts3 (fuel := 8) (laidMet_of_run' 8 (by kernel_rfl) (by kernel_rfl)) (by kernel_rfl) (by kernel_rfl)

theorem sen_of_laid {W : World} (h : laidMetH Tryd.prog laid2 W) : ∃ a0 a1, Sen W a0 a1 := by
  rw [MakeChecks.laidMetH_plain _ _ _ (by kernel_rfl)] at h
  obtain ⟨a0, a1, s0, s1, c0, c1, t0, t1, hv0, hv1, hc0, hs0, hz0, hc1, hs1, hz1, hne, hb0, hb1⟩ := laid_sentinels2 (r := []) h gNone gNoneT gOnly gOnlyT Tryd.underlying40 rowE Tryd.underlying73 Tryd.underlying99 rfl rfl Tryd.underlying9 cellsE cellsS
  have hg0 : W.cell? ⟨0, 0, none⟩ = some (erV a0) := by simpa using World.var?_cell gNone hv0 0
  have hg1 : W.cell? ⟨1, 0, none⟩ = some (erV a1) := by simpa using World.var?_cell gOnly hv1 0
  exact ⟨a0, a1, World.block_lt_of_cell? _ _ hg1, hg0, hg1, ⟨c0, t0, hb0⟩, ⟨c1, t1, hb1⟩, Ne.symm hne⟩
end Go.Proofs.YtpehfmchcjanhaaDoor
