/-
  slices.Clone, bytes.Clone and bytes.Equal over bytes. For every later stage.
-/
import Derived.Test.YtnafdgpkofffaaaDoorBuf
import Derived.Lib.SliceRun
import Derived.Lib.Bytes
import Derived.Handy
import Derived.WalkKit
set_option maxRecDepth 4000
set_option linter.unusedVariables false
set_option linter.unusedSimpArgs false
namespace Go.Proofs.YtnafdgpkofffaaaDoor
open Go.RowKit

/-! ### Strings of bytes are as unlike as the bytes -/
theorem strOf_inj {xs ys : List Int} (hx : AreBytes xs) (hy : AreBytes ys) (h1 : Lib.bytesOf xs = Lib.bytesOf ys) : xs = ys := by
  unfold Lib.bytesOf at h1
  have hl : xs.length = ys.length := by simpa using congrArg List.length h1
  apply List.ext_getElem hl
  intro i h2 h3
  have e := congrArg (fun l => l[i]?) h1
  simp only [List.getElem?_map, List.getElem?_eq_getElem h2, List.getElem?_eq_getElem h3, Option.map_some, Option.some.injEq] at e
  have b1 := hx _ (List.getElem_mem h2)
  have b2 := hy _ (List.getElem_mem h3)
  have e2 := congrArg UInt8.toNat e
  simp only [UInt8.toNat_ofNat'] at e2
  omega
theorem strOf_eq {xs ys : List Int} (hx : AreBytes xs) (hy : AreBytes ys) : ((strOfNums xs).toList == (strOfNums ys).toList) = decide (xs = ys) := by
  by_cases h : xs = ys
  · subst h; simp
  · rw [decide_eq_false h]
    refine Bool.eq_false_iff.2 fun e => h ?_
    have e := eq_of_beq e
    rw [Lib.strOfNums_toList, Lib.strOfNums_toList] at e
    exact strOf_inj hx hy e

theorem sameB_c {v u : Value} {xs ys : List Int} (w : World) (hv : Buf w v xs) (hu : Buf w u ys) :
    Calls Tryd.prog 13 #[v, u] w fun e w' => e = .returned (.bool (decide (xs = ys))) ∧ w' = w := by
  have c1 := convert_bytes hv.bytes
  have c2 := convert_bytes hu.bytes
  have hd := strOf_eq hv.ok hu.ok
  clear hv hu
  go_enter Tryd.func13, Tryd.ntmps13
  go_wp2_with fail
  go_ret
  exact ⟨by rw [← hd]; rfl, rfl⟩
theorem cloneB_c {v : Value} {xs : List Int} (hl : xs.length ≤ 140737488355328) {w : World} (hb : Buf w v xs) :
    Calls Tryd.prog 27 #[v] w fun e w' => ∃ a c, e = .returned (.slice a xs.length c) ∧ Row w' w.heap.size (.slice a xs.length c) xs ∧ Buf w' (.slice a xs.length c) xs ∧ Grew w w' := by
  obtain ⟨a, c, rfl, hc, ha⟩ := hb.shape
  have HB := Lib.hid hb
  rcases a with _ | ad
  · have hnil := fun w => Lib.run_eql_slice_nil (P := Tryd.prog) w 22 5 none 0 c 0 0 Tryd.underlying22
    have hx : xs = [] := by
      by_cases h : xs = []
      · exact h
      · obtain ⟨_, _, e, _⟩ := ha h
        cases e
    subst hx
    clear hb ha hc
    go_enter Tryd.func27, Tryd.ntmps27
    go_wp2_with fail
    go_ret
    exact ⟨none, 0, rfl, Row.nil _ _, Buf.nil _, Grew.refl _⟩
  · have hnil := fun w => Lib.run_eql_slice_nil (P := Tryd.prog) w 22 5 (some ad) xs.length c 0 0 Tryd.underlying22
    clear ha hb
    go_enter Tryd.func27, Tryd.ntmps27
    go_wp2_with (refine wpList_append_b (W := w) rfl (.tmp 5) (.tmp 6) rfl (by exact (Grew.refl w).alloc _) (Row.lit w w.heap.size (Nat.le_refl _) #[] [] rfl (Nat.zero_le _) _ rfl 0 rfl) (HB.out.grew ((Grew.refl w).alloc _)) (by rfl) (by rfl) (by simpa using hl) ?_; intro v1 w1 HR1 g1 q1; clear q1; have HB1 := Lib.hid (HR1.out.buf HB.out.ok); obtain ⟨ao, co, eo, _, _⟩ := HB1.out.shape; subst eo)
    go_ret
    exact ⟨_, _, rfl, HR1.out, HB1.out, g1⟩
end Go.Proofs.YtnafdgpkofffaaaDoor
