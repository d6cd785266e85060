/-
  Strings as lists of bytes: index, cut, and appended to a row of the call's own. For every later stage with strings.
-/
import Derived.Test.YtnafdgpkofffaaaDoorStr
import Derived.Test.YtnafdgpkofffaaaDoorStep
import Derived.Laws.Strings
import Derived.Laws.Strings2
import Derived.Laws.Slices
import Derived.Deep.AppendSrc
import Derived.Lib.AppendZeros
set_option maxRecDepth 4000
set_option linter.unusedVariables false
set_option linter.unusedSimpArgs false
namespace Go.Proofs.YtnafdgpkofffaaaDoor
open Go.RowKit

theorem strOf_get {xs : List Int} (ok : AreBytes xs) {k : Nat} (h : k < (strOfNums xs).size) : (((strOfNums xs)[k]'h).toNat : Int) = xs.getD k 0 := by
  have hl : k < xs.length := by rwa [strOf_size] at h
  have hk := ok (xs[k]) (List.getElem_mem hl)
  have e : (strOfNums xs)[k]'h = UInt8.ofNat (xs[k]).toNat := by
    show (strOfNums xs).data[k]'_ = _
    simp [strOfNums]
  rw [e, UInt8.toNat_ofNat_of_lt' (by show _ < 256; omega), List.getD_eq_getElem?_getD, List.getElem?_eq_getElem hl, Option.getD_some]
  omega
theorem str_index {xs : List Int} (ok : AreBytes xs) (kk : IntKind) (k : Nat) (h : k < xs.length) (w : World) : (Instr.index 9 (.string (strOfNums xs)) (.int kk k)).run Tryd.prog w = .ok (.int .u8 (xs.getD k 0)) w := by
  have hs : k < (strOfNums xs).size := by rw [strOf_size]; exact h
  rw [run_index_string w 9 _ kk k Tryd.underlying9, dif_pos ⟨by omega, by omega⟩]
  have e := strOf_get ok hs
  rw [← e]
  rfl
theorem strOf_cut (xs : List Int) (lo hi : Nat) : (strOfNums xs).extract lo hi = strOfNums (cutL xs lo hi) := by
  unfold strOfNums cutL
  rw [ByteArray.extract_mk, List.map_take, List.map_drop]
theorem str_slice {xs : List Int} (k1 k2 : IntKind) (lo hi : Nat) (h1 : lo ≤ hi) (h2 : hi ≤ xs.length) (w : World) : (Instr.slice 9 (.string (strOfNums xs)) (some (.int k1 lo)) (some (.int k2 hi)) none).run Tryd.prog w = .ok (.string (strOfNums (cutL xs lo hi))) w := by
  rw [run_slice_string w 9 _ k1 k2 lo hi Tryd.underlying9 (by omega) (by omega) (by rw [strOf_size]; omega), Int.toNat_natCast, Int.toNat_natCast, strOf_cut]
theorem str_slice_h {xs : List Int} (k2 : IntKind) (hi : Nat) (h2 : hi ≤ xs.length) (w : World) : (Instr.slice 9 (.string (strOfNums xs)) none (some (.int k2 hi)) none).run Tryd.prog w = .ok (.string (strOfNums (cutL xs 0 hi))) w := by
  rw [run_slice_string_h w 9 _ Tryd.underlying9 k2 hi (by omega) (by rw [strOf_size]; omega), Int.toNat_natCast, strOf_cut]
theorem byteCells_strOf {ys : List Int} (ok : AreBytes ys) : byteCells (strOfNums ys) = ys.map (Value.int .u8) := by
  unfold byteCells strOfNums
  simp only [List.map_map]
  apply List.map_congr_left
  intro y hy
  have := ok y hy
  simp only [Function.comp]
  rw [UInt8.toNat_ofNat_of_lt' (by show _ < 256; omega)]
  congr 1
  omega
/-- append(s, t...), the row the call's own, t a string. -/
theorem run_append_str {w : World} {base : Nat} {v : Value} {xs ys : List Int} (ty : TypeId) (hown : Row w base v xs) (hy : AreBytes ys) (hb : base ≤ w.heap.size) (hlen : xs.length + ys.length ≤ 140737488355328) :
    ∃ v' w', (Builtin.append_ #[22, 9] ty #[v, .string (strOfNums ys)]).run Tryd.prog w = .ok v' w' ∧ Row w' base v' (xs ++ ys) ∧ w.grownBy w' v.ownBlock ∧ (v'.ownBlock = v.ownBlock ∨ v'.ownBlock = some w.heap.size) := by
  obtain ⟨i, hi, hz, hz1, hz2⟩ := info_parts u8_info
  have e1 : (Value.int IntKind.u8 0).cells.size = 1 := rfl
  have hsrc : Src Tryd.prog i.size 9 (.string (strOfNums ys)) ys.length (ys.map (Value.int .u8)) w := by
    have := Src.ofString (P := Tryd.prog) w Tryd.underlying9 (strOfNums ys)
    rw [byteCells_strOf hy, strOf_size] at this
    rw [hz1]
    exact this
  have hlen2 : (xs ++ ys).length = xs.length + ys.length := List.length_append
  have grown : ∀ (old : Nat), old < xs.length + ys.length → ∀ row : Option Nat,
      Row (w.drew.alloc (.cells ((xs.map (Value.int .u8) ++ ys.map (Value.int .u8)).toArray ++ Builtin.zeroCells (Value.int .u8 0).cells (grownCap w (xs.length + ys.length) old 5 - (xs.length + ys.length))) 5)) base (.slice (some ⟨w.heap.size, 0, none⟩) (xs.length + ys.length) (grownCap w (xs.length + ys.length) old 5)) (xs ++ ys) ∧
      w.grownBy (w.drew.alloc (.cells ((xs.map (Value.int .u8) ++ ys.map (Value.int .u8)).toArray ++ Builtin.zeroCells (Value.int .u8 0).cells (grownCap w (xs.length + ys.length) old 5 - (xs.length + ys.length))) 5)) row := by
    intro old ho row
    have hge := grownCap_ge w (xs.length + ys.length) old 5
    have hcm := grownCap_le_maxLen w (xs.length + ys.length) old 5 (by unfold maxLen; omega)
    generalize grownCap w (xs.length + ys.length) old 5 = C at *
    refine ⟨?_, ⟨rfl, rfl, rfl, by simp, fun k hk _ => heap_alloc_old w.drew _ hk⟩⟩
    unfold Row
    rw [hlen2]
    refine ⟨by simp, .inr ⟨w.heap.size, C, _, rfl, hb, heap_alloc_new w.drew _, hge, hcm, ?_, ?_⟩⟩
    · simp only [Array.size_append, List.size_toArray, size_zeroCells, e1, List.length_append, List.length_map]
      omega
    · simp only [Array.toList_append, List.map_append]
      have : (xs.map (Value.int .u8) ++ ys.map (Value.int .u8)).length = (xs.length + ys.length) * 1 := by simp
      rw [← this]
      exact List.take_left
  rcases hown.2 with ⟨rfl, hn⟩ | ⟨b, cap, cur, rfl, hbg, hg, hnc, hcm, hcs, htake⟩
  · have hx : xs = [] := List.eq_nil_of_length_eq_zero hn
    subst hx
    by_cases hy0 : ys = []
    · subst hy0
      refine ⟨.slice none 0 0, w, ?_, by simpa using hown, ⟨rfl, rfl, rfl, Nat.le_refl _, fun _ _ _ => rfl⟩, .inl rfl⟩
      have h0 : (strOfNums []).size = 0 := rfl
      simp [Builtin.append_, run_underlying Tryd.underlying22, run_underlying Tryd.underlying9, sizeOf, typeInfo, hi, Builtin.lenOf, h0, Builtin.firstCells]
    · have hp : 0 < ys.length := List.length_pos_iff.2 hy0
      have hr := run_append_grow_src (P := Tryd.prog) w 22 9 ty 5 i (.int .u8 0) Tryd.underlying22 hi hz none 0 0 [] (run_firstCells_none w.drew i.size 0 0 0) (.string (strOfNums ys)) ys.length (ys.map (Value.int .u8)) hsrc (by omega) (by simp at hlen; omega) (growslice_fits (by omega) (by rw [hz2]; simp at hlen; omega))
      have hgr := grown 0 (by simp; omega) (Value.ownBlock (.slice none 0 0))
      simp only [List.length_nil, Nat.zero_add, List.map_nil, List.nil_append] at hgr hr
      refine ⟨_, _, hr, ?_, hgr.2, .inr rfl⟩
      simpa using hgr.1
  · by_cases hroom : xs.length + ys.length ≤ cap
    · have hcsz : cur.size = cap := by rw [hcs]; omega
      have htk : cur.toList.take xs.length = xs.map (Value.int .u8) := by rw [← htake, Nat.mul_one]
      have hst := run_storeCells_at Tryd.prog b (xs.length * i.size) 5 (ys.map (Value.int .u8)) 0 cur w hg (by rw [hz1]; simp; omega) (fun u hu => by obtain ⟨x, _, rfl⟩ := List.mem_map.1 hu; rfl)
      simp only [Nat.add_zero, hz1, Nat.mul_one, List.length_map] at hst
      have hf := hsrc.cells
      rw [hz1] at hf
      have hls : (strOfNums ys).size = ys.length := strOf_size ys
      refine ⟨.slice (some ⟨b, 0, none⟩) (xs.length + ys.length) cap, w.setRow b (cur.toList.take xs.length ++ ys.map (Value.int .u8) ++ cur.toList.drop (xs.length + ys.length)).toArray, ?_, ?_, ⟨rfl, rfl, rfl, by simp [World.setRow], fun k _ hk => setRow_other w b k _ (fun e => hk (by simp [Value.ownBlock, e]))⟩, .inl rfl⟩
      · simp [Builtin.append_, run_underlying Tryd.underlying22, run_underlying Tryd.underlying9, sizeOf, typeInfo, hi, Builtin.lenOf, hls, hroom, hz1, hf, Addr.add_lit, hst]
      · unfold Row
        rw [hlen2]
        refine ⟨by simp, .inr ⟨b, cap, _, rfl, hbg, setRow_heap w b cur _ 5 _ hg, hroom, hcm, ?_, ?_⟩⟩
        · simp only [List.size_toArray, List.length_append, List.length_take, List.length_drop, Array.length_toList, List.length_map]
          omega
        · rw [htk, Nat.mul_one, ← List.map_append]
          have : ((xs ++ ys).map (Value.int .u8)).length = xs.length + ys.length := by simp
          show List.take (xs.length + ys.length) (((xs ++ ys).map (Value.int .u8)) ++ _) = _
          rw [← this]
          exact List.take_left
    · have holds : ∀ j u, (xs.map (Value.int .u8))[j]? = some u → w.cell? ((⟨b, 0, none⟩ : Addr).add j) = some u := World.ownsRow.cells (g := b) hown rfl
      have hfc := run_firstCells_some (P := Tryd.prog) w.drew i.size xs.length ⟨b, 0, none⟩ xs.length cap (xs.map (Value.int .u8)) (by rw [hz1]; simp) (by simpa using holds)
      have hr := run_append_grow_src (P := Tryd.prog) w 22 9 ty 5 i (.int .u8 0) Tryd.underlying22 hi hz (some ⟨b, 0, none⟩) xs.length cap (xs.map (Value.int .u8)) hfc (.string (strOfNums ys)) ys.length (ys.map (Value.int .u8)) hsrc (by omega) (by omega) (growslice_fits (by omega) (by rw [hz2]; omega))
      have hgr := grown cap (by omega) (Value.ownBlock (.slice (some ⟨b, 0, none⟩) xs.length cap))
      exact ⟨_, _, hr, hgr.1, hgr.2, .inr rfl⟩
theorem wp_append_str {o : Oper} {a : Act} {w W : World} {K : Act → World → Prop} {Q : Exit → Act → World → Prop} (s x : Operand)
    (ho : o.op = .call { callee := .builtin .append, args := #[s, x], argTypes := #[22, 9] }) (hgr : Grew W w)
    {v : Value} {xs ys : List Int} (hown : Row w W.heap.size v xs) (hy : AreBytes ys) (hs : a.eval s = v) (hx : a.eval x = .string (strOfNums ys)) (hlen : xs.length + ys.length ≤ 140737488355328)
    (h : ∀ v' w', Hid (Row w' W.heap.size v' (xs ++ ys)) → Grew W w' → w.grownBy w' v.ownBlock → K (a.put o.dst v') w') : o.wp Tryd.prog a w K Q := by
  obtain ⟨v', w', hr, h1, h2, _⟩ := run_append_str o.type hown hy hgr.size hlen
  exact Lib.wp_append_run w s x 22 9 ho _ _ hs hx v' w' hr (h v' w' (Lib.hid h1) (Below.grown hgr h2 hgr.size fun k hk => hown.ge k hk) h2)
/-- As one step of a region that draws its order. -/
theorem step_append_str {ops : Array Oper} {T : Array Value} {o : Oper} {a : Act} {w W : World} {K : Act → World → Prop} {Q : Exit → Act → World → Prop} {E : Prop} (hgd : o.guard = none) (s x : Operand)
    (ho : o.op = .call { callee := .builtin .append, args := #[s, x], argTypes := #[22, 9] }) (hgr : Grew W w)
    {v : Value} {xs ys : List Int} (hown : Row w W.heap.size v xs) (hy : AreBytes ys) (hs : a.eval s = v) (hx : a.eval x = .string (strOfNums ys)) (hlen : xs.length + ys.length ≤ 140737488355328)
    (h : ∀ v' w', Hid (Row w' W.heap.size v' (xs ++ ys)) → Grew W w' → w.grownBy w' v.ownBlock → K (a.put o.dst v') w') : if Region.wanted o (yielded ops T) = true then Oper.wp Tryd.prog o a w K Q else E := by
  have hw : Region.wanted o (yielded ops T) = true := by simp [Region.wanted, hgd]
  rw [if_pos hw]
  exact wp_append_str s x ho hgr hown hy hs hx hlen h
end Go.Proofs.YtnafdgpkofffaaaDoor
