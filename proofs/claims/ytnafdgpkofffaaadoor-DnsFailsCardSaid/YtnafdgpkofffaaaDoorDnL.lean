/-
  A world that lays what the rows list: the type handle that errors.As asks for, and three tables of Go's library.
-/
import Derived.Test.YtnafdgpkofffaaaDoorIpL
import Derived.Test.YtnafdgpkofffaaaDoorShelf
import Derived.Lib.LaidCaseMet
import GoSem.PinnedTables
import Derived.KernelRfl
set_option maxRecDepth 4000
set_option linter.unusedVariables false
set_option linter.unusedSimpArgs false
namespace Go.Proofs.YtnafdgpkofffaaaDoor
open Go.ChangeShapes Go.WideShapes Go.ChangeAt Go.RowKit
open Go.Extern.Stop Go.Stop Go.Extern

noncomputable def laid4 : List (String × DataW Unit) := [("unicode/utf8.acceptRanges", Rows.laid_unicode_utf8_acceptRanges), ("errors.errorType", Rows.laid_errors_errorType), ("unicode.CaseRanges", Rows.laid_unicode_CaseRanges), ("unicode/utf8.first", Rows.laid_unicode_utf8_first)]
def firstCells : Array Value := (Go.Pinned.utf8FirstZ.map fun (n : Nat) => Value.int .u8 n).toArray
def putCells (h : Array Obj) (g : Nat) (cs : Array Value) : Array Obj := h.modify g fun
  | .cells _ t frozen => .cells cs t frozen
  | o => o
noncomputable def world4 (os : Os) : World :=
  let w0 := World.doorLaid Tryd.prog 400 os
  { w0 with heap := (putCells (putCells w0.heap 3 firstCells) 1 #[.slice (some ⟨w0.heap.size, 0, none⟩) Lib.caseA.size Lib.caseA.size]).push (.cells Lib.caseCells5 142) }
noncomputable abbrev top4 : Nat := (World.doorLaid Tryd.prog 400 default).heap.size
def ren4 : Go.Shelf.Ren := ⟨Tryd.lays274_ren.f, fun | 162 => 126 | n => Tryd.lays274_ren.t n, fun | 13 => 1 | n => n⟩
theorem lays4 : Go.Proofs.Lays.n274 Tryd.prog ren4 := { Tryd.lays274 with }
theorem caseX : Go.Proofs.CaseExtra Tryd.prog ren4 := { n13 := by kernel_rfl, y13 := by kernel_rfl, c21 := by kernel_rfl, c51 := by kernel_rfl, c206 := by kernel_rfl, c208 := by kernel_rfl }
/-- The order of the list does not matter. -/
theorem laid_swap {P : Program} {w : World} {x y z : String × DataW Unit} (h : laidMet P [x, y, z] w) : laidMet P [x, z, y] w := by
  obtain ⟨ps, hl, hn, hr⟩ := h
  obtain ⟨g1, t1, c1, f1, p1, q1, a1, b1, d1, e1, hl1, rfl⟩ := hl
  obtain ⟨g2, t2, c2, f2, p2, q2, a2, b2, d2, e2, hl2, rfl⟩ := hl1
  obtain ⟨g3, t3, c3, f3, p3, q3, a3, b3, d3, e3, hl3, rfl⟩ := hl2
  obtain rfl : q3 = [] := hl3
  have hp : (MemPlace.row ⟨g1, 0, none⟩ c1.size ++ p1 ++ (MemPlace.row ⟨g3, 0, none⟩ c3.size ++ p3 ++ (MemPlace.row ⟨g2, 0, none⟩ c2.size ++ p2 ++ []))).Perm (MemPlace.row ⟨g1, 0, none⟩ c1.size ++ p1 ++ (MemPlace.row ⟨g2, 0, none⟩ c2.size ++ p2 ++ (MemPlace.row ⟨g3, 0, none⟩ c3.size ++ p3 ++ []))) := by
    refine List.Perm.append_left _ ?_
    rw [List.append_nil, List.append_nil]
    exact List.perm_append_comm
  exact ⟨_, ⟨g1, t1, c1, f1, p1, _, a1, b1, d1, e1, ⟨g3, t3, c3, f3, p3, _, a3, b3, d3, e3, ⟨g2, t2, c2, f2, p2, _, a2, b2, d2, e2, rfl, rfl⟩, rfl⟩, rfl⟩, hp.nodup_iff.2 hn, fun b off hm => hr b off (hp.mem_iff.1 hm)⟩
set_option maxRecDepth 1000000 in
theorem case_eq : Go.Pinned.caseRanges = Lib.caseData := by kernel_rfl
set_option maxRecDepth 1000000 in
theorem tables4 (os : Os) (args : Array Value) : laidMet Tryd.prog ([("unicode/utf8.acceptRanges", Rows.laid_unicode_utf8_acceptRanges), ("unicode/utf8.first", Rows.laid_unicode_utf8_first)] ++ [("unicode.CaseRanges", Lib.caseData)]) ((world4 os).forCall (fun _ _ => 0) ⟨#[], args, []⟩).memory :=
  Go.Proofs.laidMet_with_case lays4 (by kernel_rfl) caseX 10 (by kernel_rfl) (by kernel_rfl) (by kernel_rfl) top4 142 (by decide +kernel) (by kernel_rfl) (by kernel_rfl) (by kernel_rfl)
theorem plain4 (os : Os) (args : Array Value) : laidMet Tryd.prog [("unicode/utf8.acceptRanges", Rows.laid_unicode_utf8_acceptRanges), ("unicode.CaseRanges", Rows.laid_unicode_CaseRanges), ("unicode/utf8.first", Rows.laid_unicode_utf8_first)] ((world4 os).forCall (fun _ _ => 0) ⟨#[], args, []⟩).memory := by
  have h := laid_swap (tables4 os args)
  rw [← case_eq] at h
  exact h
theorem met4 (os : Os) (args : Array Value) : laidMetH Tryd.prog laid4 ((world4 os).forCall (fun _ _ => 0) ⟨#[], args, []⟩).memory :=
  laidMetH_of_parts3 (fuel := 8) (plain4 os args) (by kernel_rfl) (by kernel_rfl)
theorem sen4_of_laid {W : World} (h : laidMetH Tryd.prog laid4 W) : ∃ _ _ : Unit, SenW W := by
  have h' : laidMet Tryd.prog [("unicode/utf8.acceptRanges", Rows.laid_unicode_utf8_acceptRanges), ("unicode.CaseRanges", Rows.laid_unicode_CaseRanges), ("unicode/utf8.first", Rows.laid_unicode_utf8_first)] W ∧ handlesMet Tryd.prog laid2 W := h
  obtain ⟨name, u, ty, e1, e2, e3, e4, e5⟩ := h'.2 _ (List.mem_singleton.2 rfl)
  have en : name = [101, 114, 114, 111, 114] := (Option.some.inj e1).symm
  subst en
  obtain rfl := Option.some.inj (gRt.symm.trans e2)
  have hm : ty ∈ (List.range Tryd.prog.types.size).filter fun t => Tryd.prog.rowNamed t [101, 114, 114, 111, 114] := List.mem_filter.2 ⟨List.mem_range.2 e3, e4⟩
  rw [oneRow] at hm
  obtain rfl := List.mem_singleton.1 hm
  have hh : typeHandle Tryd.prog 51 = .pointer (some ⟨5, 51, none⟩) := by kernel_rfl
  rw [hh] at e5
  exact ⟨(), (), by simpa [SenW] using World.var?_cell gEt e5 0⟩
end Go.Proofs.YtnafdgpkofffaaaDoor
