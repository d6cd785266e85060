/-
  The library's own functions on texts as package dns uses them: an end cut off, small letters, texts joined and taken apart at dots.
-/
import Derived.Test.YtnafdgpkofffaaaDoorShelf
import Derived.Test.YtnafdgpkofffaaaDoorDnX
import Derived.Test.YtnafdgpkofffaaaDoorRdO
import Derived.Shelf.Strings.OnBuilder
import Derived.Shelf.Strings.Prefix
import Derived.Shelf.Strings.SplitCore
import Derived.Shelf.Strings.Search3
import Derived.Shelf.Strings.Count
import Derived.Lib.SplitLaws
set_option maxRecDepth 4000
set_option linter.unusedVariables false
set_option linter.unusedSimpArgs false
namespace Go.Proofs.YtnafdgpkofffaaaDoor
open Go.RowKit Go.Shelf

theorem trim_c {xs : List Int} (h : AreBytes xs) (hl : xs.length ≤ 140737488355328) (w : World) :
    Calls Tryd.prog 15 #[.string (strOfNums xs), .string ⟨#[46]⟩] w fun e w' => e = .returned (.string (strOfNums (trimV xs))) ∧ w' = w := by
  refine (Any.strings_TrimSuffix Tryd.lays102 (strOfNums xs) ⟨#[46]⟩ w (by rw [strOf_size]; omega)).mono ?_
  rintro e w' ⟨rfl, rfl⟩
  exact ⟨by rw [← trim_strOf h], rfl⟩
theorem low_c {xs : List Int} (h : ∀ c ∈ xs, 0 ≤ c ∧ c < 128) (hl : xs.length ≤ 140737488355328) (w : World) :
    Calls Tryd.prog 34 #[.string (strOfNums xs)] w fun e w' => e = .returned (.string (strOfNums (lowL xs))) ∧ Grew w w' := by
  refine (Any.strings_ToLower_ascii Tryd.lays159 Tryd.ext159 (strOfNums xs) w (by rw [strOf_size]; exact hl) (ascii_strOf h)).mono ?_
  rintro e w' ⟨rfl, hb⟩
  exact ⟨by rw [← lower_strOf h], hb⟩
theorem join_c {L : List (List Int)} {av : Nat → Prop} {v : Value} {w : World} (hv : RdC w av (.row 1 (L.map fun l => [.str (strOfNums l)])) v) (hm : L.length ≤ 140737488355328) (hlen : (joinV L).length ≤ 140737488355328) :
    Calls Tryd.prog 35 #[v, .string ⟨#[46]⟩] w fun e w' => e = .returned (.string (strOfNums (joinV L))) ∧ Grew w w' := by
  obtain ⟨a, c, rfl, hx⟩ := hv.shape
  by_cases h0 : L = []
  · subst h0
    refine (Any.strings_Join_none Tryd.lays156 Tryd.ext156 a c ⟨#[46]⟩ w).mono ?_
    rintro e w' ⟨rfl, rfl⟩
    exact ⟨rfl, Grew.refl _⟩
  · obtain ⟨hc, hw, b, off, us, rfl, _, hb, hl, hcell, hr⟩ := hx (by simpa using h0)
    have hfl : (L.map fun l => [Dc.str (strOfNums l)]).flatten = L.map fun l => Dc.str (strOfNums l) := by
      clear hm hlen hv hx hc hw hl hcell hr h0
      induction L with
      | nil => rfl
      | cons x r ih => simp only [List.map_cons, List.flatten_cons, ih]; rfl
    rw [hfl] at hl hr
    rw [List.length_map] at hl hc
    have hjl : (Lib.join ((L.map strOfNums).map (·.data.toList)) [46]).length = (joinV L).length := by
      have := congrArg (fun s : ByteArray => s.size) (join_strOf L)
      simp only [strOf_size] at this
      rw [← this]
      rfl
    have hcs : ∀ (j : Nat) x, (L.map strOfNums)[j]? = some x → w.cell? ⟨b, off + j, none⟩ = some (.string x) := fun j x hj => by
      rw [List.getElem?_map] at hj
      obtain ⟨l, hl', rfl⟩ := Option.map_eq_some_iff.1 hj
      have hj' := (List.getElem?_eq_some_iff.1 hl').1
      have hu : us[j]? = some (us[j]'(by rw [hl]; exact hj')) := List.getElem?_eq_getElem _
      rw [hcell j _ hu]
      have h9 := hr j (.str (strOfNums l)) _ (by rw [List.getElem?_map, hl']; rfl) hu
      generalize us[j]'(by rw [hl]; exact hj') = u9 at h9
      cases h9
      rfl
    have c := Any.strings_Join Tryd.lays156 Tryd.ext156 b off c (L.map strOfNums) ⟨#[46]⟩ w hcs hb (by rw [List.length_map]; exact hm) (by rw [List.length_map]; exact hc) (by rw [show (⟨#[46]⟩ : ByteArray).data.toList = [46] from rfl, hjl]; exact hlen)
    rw [List.length_map] at c ⊢
    refine c.mono ?_
    rintro e w' ⟨rfl, hbl⟩
    exact ⟨by rw [← join_strOf], hbl⟩
theorem split_c {xs : List Int} (h : AreBytes xs) (hl : xs.length ≤ 70000) (w : World) :
    Calls Tryd.prog 31 #[.string (strOfNums xs), .string ⟨#[46]⟩] w fun e w' => e = .returned (.slice (some ⟨w.heap.size, 0, none⟩) (splitF [] xs).length (splitF [] xs).length) ∧ w' = w.alloc (.cells ((splitF [] xs).map fun l => Value.string (strOfNums l)).toArray 9) := by
  have hcnt := countB_byF xs h
  have hmany := splitF_many xs []
  have hsp := splitB_strOf ((splitF [] xs).length - 1) xs h (by omega)
  have hI : ∀ (x : ByteArray) (c : Array Value), x.size ≤ (strOfNums xs).size → Calls Tryd.prog (Tryd.lays221_ren.f 143) #[.string x, .string ⟨#[46]⟩] (w.alloc (.cells c (Tryd.lays221_ren.t 9))) fun e w' => e = .returned (.int .i64 (Lib.indexB x ⟨#[46]⟩)) ∧ w' = w.alloc (.cells c (Tryd.lays221_ren.t 9)) := fun x c _ => by
    refine (Any.strings_Index_one { Tryd.lays221 with } x 46 _).mono ?_
    rintro e w' ⟨rfl, rfl⟩
    exact ⟨by rw [Lib.one x ⟨#[46]⟩ rfl]; rfl, rfl⟩
  have hC : Calls Tryd.prog (Tryd.lays221_ren.f 138) #[.string (strOfNums xs), .string ⟨#[46]⟩] w fun e w' => e = .returned (.int .i64 (Lib.countB (strOfNums xs) ⟨#[46]⟩)) ∧ w' = w := by
    refine (Any.strings_Count_one { Tryd.lays221 with } (strOfNums xs) 46 w).mono ?_
    rintro e w' ⟨rfl, rfl⟩
    refine ⟨?_, rfl⟩
    have := count_byF xs h []
    rw [strOf_data, show Lib.countByte (xs.map byF) 46 = Lib.countB (strOfNums xs) ⟨#[46]⟩ by omega]
  have c := Any.strings_genSplit_core Tryd.lays221 (by kernel_rfl) (strOfNums xs) ⟨#[46]⟩ 0 (-1) (splitF [] xs).length w (by rw [strOf_size]; omega) (by decide) (Nat.zero_le _) hI hC (by decide) (by decide) (by rw [if_pos (by decide), strOf_size]; omega)
  rw [hsp, List.length_map, show Lib.cellsOf ((splitF [] xs).map strOfNums) (splitF [] xs).length = ((splitF [] xs).map fun l => Value.string (strOfNums l)).toArray by
    have := Lib.cellsOf_full ((splitF [] xs).map strOfNums)
    rw [List.length_map] at this
    rw [this, List.map_map]
    rfl] at c
  have C := Lib.hid (show Calls Tryd.prog 40 #[.string (strOfNums xs), .string ⟨#[46]⟩, .int .i64 0, .int .i64 (-1)] w _ from c)
  clear c hsp hcnt hmany hI hC
  generalize strOfNums xs = S0 at *
  go_enter Tryd.func31, Tryd.ntmps31
  go_wp2_with fail
  refine C.out.mono ?_
  rintro e w1 ⟨rfl, h1⟩
  obtain rfl := h1.symm
  go_wp2_with fail
  go_ret
  exact ⟨rfl, rfl⟩
end Go.Proofs.YtnafdgpkofffaaaDoor
