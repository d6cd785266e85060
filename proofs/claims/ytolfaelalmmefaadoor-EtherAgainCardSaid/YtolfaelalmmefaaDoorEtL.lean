/-
  What the program's text lays gives the three sentinels (Sen); a world that meets it.
-/
import Derived.Test.YtolfaelalmmefaaDoorEtC
import Derived.ProofKit
import Derived.LaidMore
import Derived.LaidSub
import Derived.OpenShut
import Derived.Stop.Joined
import Derived.Stop.LaidErr
import Derived.Stop.LaidTwo
import Derived.RowKitTokens
import Derived.JoinedOf
set_option maxRecDepth 4000
set_option linter.unusedVariables false
set_option linter.unusedSimpArgs false
namespace Go.Proofs.YtolfaelalmmefaaDoor
open Go.ChangeShapes Go.WideShapes Go.ChangeAt Go.RowKit
open Go.Extern.Stop Go.Stop Go.Extern

def laid2 : List (String × DataW Unit) := [("drawbridge/ether.errShort", Rows.laid_drawbridge_ether_errShort), ("drawbridge/ether.errLong", Rows.laid_drawbridge_ether_errLong), ("drawbridge/ether.errOther", Rows.laid_drawbridge_ether_errOther)]
theorem gShort : Tryd.prog.globalNamed "drawbridge/ether.errShort" = some 0 := by kernel_rfl
theorem gLong : Tryd.prog.globalNamed "drawbridge/ether.errLong" = some 1 := by kernel_rfl
theorem gOther : Tryd.prog.globalNamed "drawbridge/ether.errOther" = some 2 := by kernel_rfl
theorem gShortT : (Tryd.prog.globals[0]?).map (·.type) = some 55 := by kernel_rfl
theorem gLongT : (Tryd.prog.globals[1]?).map (·.type) = some 55 := by kernel_rfl
theorem gOtherT : (Tryd.prog.globals[2]?).map (·.type) = some 55 := by kernel_rfl
theorem cellsE : Tryd.prog.cellsOf 125 = 1 := by kernel_rfl
theorem cellsS : Tryd.prog.cellsOf 9 = 1 := by kernel_rfl
theorem star : "*" ++ "errors.errorString" = "*errors.errorString" := by decide
theorem rowE (u : TypeId) (h : Tryd.prog.typeName? 3 u = some "*errors.errorString") : u = 101 :=
  typeName_ptr_named (nm := "errors.errorString") (by rw [star]; kernel_rfl) (by kernel_rfl) (by decide) u (by rw [star]; exact h)

theorem door_met (os : Os) (args : Array Value) : laidMetH Tryd.prog laid2 ((World.doorLaid Tryd.prog 400 os).forCall (fun _ _ => 0) ⟨#[], args, []⟩).memory :=
  laidMetH_of_parts3 (fuel := 8) (laidMet_of_run' 8 (by kernel_rfl) (by kernel_rfl)) (by kernel_rfl) (by kernel_rfl)

/-- There are the three sentinels. -/
def SenW (W : World) : Prop := ∃ a0 a1 a2, Sen W a0 a1 a2
theorem sen_of_laid {W : World} (h : laidMetH Tryd.prog laid2 W) : ∃ _ _ : Unit, SenW W := by
  rw [MakeChecks.laidMetH_plain _ _ _ (by kernel_rfl)] at h
  have hf : laidMet Tryd.prog [("drawbridge/ether.errShort", Rows.laid_drawbridge_ether_errShort), ("drawbridge/ether.errOther", Rows.laid_drawbridge_ether_errOther)] W := by
    have := h.filter (fun x => x.1 != "drawbridge/ether.errLong")
    have e : laid2.filter (fun x => x.1 != "drawbridge/ether.errLong") = [("drawbridge/ether.errShort", Rows.laid_drawbridge_ether_errShort), ("drawbridge/ether.errOther", Rows.laid_drawbridge_ether_errOther)] := by kernel_rfl
    rwa [e] at this
  obtain ⟨a0, a1, s0, s1, c0, c1, t0, t1, hv0, hv1, hc0, hs0, hz0, hc1, hs1, hz1, hne, hb0, hb1⟩ := laid_sentinels2 (r := [("drawbridge/ether.errOther", Rows.laid_drawbridge_ether_errOther)]) h gShort gShortT gLong gLongT Tryd.underlying55 rowE Tryd.underlying101 Tryd.underlying125 rfl rfl Tryd.underlying9 cellsE cellsS
  obtain ⟨b0, a2, _, s2, _, c2, _, t2, kv0, hv2, _, _, _, hc2, hs2, hz2, hne2, _, hb2⟩ := laid_sentinels2 (r := []) hf gShort gShortT gOther gOtherT Tryd.underlying55 rowE Tryd.underlying101 Tryd.underlying125 rfl rfl Tryd.underlying9 cellsE cellsS
  obtain rfl : a0 = b0 := by
    have := hv0.symm.trans kv0
    simpa using this
  have hg0 : W.cell? ⟨0, 0, none⟩ = some (erV a0) := by simpa using World.var?_cell gShort hv0 0
  have hg1 : W.cell? ⟨1, 0, none⟩ = some (erV a1) := by simpa using World.var?_cell gLong hv1 0
  have hg2 : W.cell? ⟨2, 0, none⟩ = some (erV a2) := by simpa using World.var?_cell gOther hv2 0
  exact ⟨(), (), a0, a1, a2, World.block_lt_of_cell? _ _ hg0, World.block_lt_of_cell? _ _ hg1, World.block_lt_of_cell? _ _ hg2, hg0, hg1, hg2, ⟨c0, t0, hb0⟩, ⟨c1, t1, hb1⟩, ⟨c2, t2, hb2⟩, Ne.symm hne, Ne.symm hne2⟩
end Go.Proofs.YtolfaelalmmefaaDoor
