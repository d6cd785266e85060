/-
  Contracts of package ram: Fill, Write, New.
-/
import Derived.Test.YtoehdhhodidehaaRows
import Derived.Test.YtoehdhhodidehaaRamB
import Derived.Test.YtoehdhhodidehaaClass
import Derived.WalkKit
import Derived.Outline
import Derived.Handy
import Derived.StillTailTactics
import Derived.Deep.QuietTactic
import Derived.BigQuiet
import Derived.Deep.DeepCutAuto
import Derived.Deep.RegionHeld3
set_option maxRecDepth 4000
set_option linter.unusedVariables false
set_option linter.unusedSimpArgs false
namespace Go.Proofs.Ytoehdhhodidehaa
open Go.RowKit

/-! ### Fill -/
/-- Memory xs with the bytes ys from x on; as it is, unless there is memory for all of them. -/
def fillV (xs : List Int) (x : Int) (ys : List Int) : List Int := if insideV xs.length x ys.length then lay xs (x - 2147483648).toNat ys else xs
theorem fillV_length (xs : List Int) (x : Int) (ys : List Int) : (fillV xs x ys).length = xs.length := by
  unfold fillV
  split
  · rename_i h
    obtain ⟨lo, k, rfl, h2, h3⟩ := insideV_no h
    exact lay_length (by omega)
  · rfl
theorem fillV_ok {xs ys : List Int} (x : Int) (hx : AreBytes xs) (hy : AreBytes ys) : AreBytes (fillV xs x ys) := by
  unfold fillV
  split
  · exact hx.lay hy _
  · exact hx
theorem fill_part (xs ys : List Int) (x : Int) : ∃ off, off + (bytesV xs x ys.length).length ≤ xs.length ∧ (0 < (bytesV xs x ys.length).length → off = (x - 2147483648).toNat) ∧ lay xs off (ys.take (bytesV xs x ys.length).length) = fillV xs x ys := by
  cases hv : insideV xs.length x ys.length
  · refine ⟨0, ?_, ?_, ?_⟩
    · rw [bytesV_out hv]; simp
    · rw [bytesV_out hv]; simp
    · unfold fillV; rw [bytesV_out hv, hv]; simp [lay]
  · obtain ⟨lo, k, rfl, hk, h⟩ := insideV_no hv
    have hk' : ys.length = k := by omega
    have hl : (bytesV xs (2147483648 + (lo : Int)) ys.length).length = k := by rw [hk, bytesV_in h, cutL_length (by omega) h]; omega
    rw [hl]
    have e : (2147483648 + (lo : Int) - 2147483648).toNat = lo := by omega
    refine ⟨lo, h, fun _ => e.symm, ?_⟩
    unfold fillV
    rw [hv, e, ← hk', List.take_length]; rfl

set_option maxHeartbeats 400000 in
theorem fill_c {v u : Value} {xs ys : List Int} (x : Int) (hx0 : 0 ≤ x) (hx1 : x < 18446744073709551616) (w : World) (hb : Buf w v xs) (hu : Buf w u ys) (hl : xs.length ≤ 140737488355328) :
    Calls Try.prog 73 #[.agg #[v], .int .u64 x, u] w fun e w' => ∃ g, e = .returned (.tuple #[.agg #[.slice (some ⟨g, 0, none⟩) xs.length xs.length], .bool (insideV xs.length x ys.length)]) ∧
      Row w' w.heap.size (.slice (some ⟨g, 0, none⟩) xs.length xs.length) (fillV xs x ys) ∧ Grew w w' := by
  obtain ⟨a, c, rfl, hc, ha⟩ := hb.shape
  obtain ⟨a2, c2, rfl, hc2, ha2⟩ := hu.shape
  obtain ⟨off, ho1, ho2, ho3⟩ := fill_part xs ys x
  have hul := hu.len
  unfold maxLen at hul
  have HB := Lib.hid hb
  have HU := Lib.hid hu
  have H2 := Lib.hid ho2
  have H3 := Lib.hid ho3
  generalize hz : bytesV xs x ys.length = zs at *
  have HZ := Lib.hid hz
  have hp : ∀ (g m c : Nat) (w' : World), Buf w' (.slice (some ⟨g, 0, none⟩) m c) xs → Calls Try.prog 77 #[.agg #[.slice (some ⟨g, 0, none⟩) m c], .int .u64 x, .int .i64 ys.length] w' fun e w'' => ∃ a' n' c', e = .returned (.tuple #[.slice a' n' c', .bool (insideV xs.length x ys.length)]) ∧ Hid (Buf w'' (.slice a' n' c') zs) ∧
      Hid (0 < n' → a' = some ⟨g, off, none⟩) ∧ Grew w' w'' := fun g m c w' h => by
    refine (part_c x ys.length hx0 hx1 (by omega) (by omega) w' h).mono ?_
    rintro e w'' ⟨a', n', c', rfl, h2, h3, g⟩
    rw [HZ.out] at h2
    obtain ⟨hn, _⟩ := h2.lenEq
    refine ⟨a', n', c', rfl, h2, ?_, g⟩
    show _ → _
    intro hn'
    rw [h3 hn', ← H2.out (by rw [← hn]; exact hn')]
    simp [Addr.add]
    omega
  generalize insideV xs.length x ys.length = b at *
  generalize hf : fillV xs x ys = fs at *
  have HP := Lib.hid hp
  clear hp hz hb hu ha hc ha2 hc2 ho2 ho3 hf
  go_enter Try.func73, Try.ntmps73
  go_wp2_with fail
  refine (own_c _ (takes_box (takes_box HB.out _ _) _ _) hl).mono ?_
  rintro e w1 ⟨g, rfl, hr, g1⟩
  have hR0 : Blk ((w.alloc (.cells #[.slice a xs.length c] 27)).alloc (.cells #[.slice none 0 0] 27)) (w.heap.size + 1) #[.slice none 0 0] 27 := Blk.new _ _ _ _ (by simp)
  have hg0 : Grew w ((w.alloc (.cells #[.slice a xs.length c] 27)).alloc (.cells #[.slice none 0 0] 27)) := ((Grew.refl w).alloc _).alloc _
  have hsz0 : ((w.alloc (.cells #[.slice a xs.length c] 27)).alloc (.cells #[.slice none 0 0] 27)).heap.size = w.heap.size + 2 := by simp
  generalize ((w.alloc (.cells #[.slice a xs.length c] 27)).alloc (.cells #[.slice none 0 0] 27)) = W0 at *
  have hgb := hr.ge g rfl
  have hgl := own_lt hr g rfl
  have hR1 := hR0.grew g1
  go_upto_region 2 with fail
  have hF : Blk (w1.alloc (.cells #[.slice (some ⟨g, 0, none⟩) xs.length xs.length] 27)) w1.heap.size #[.slice (some ⟨g, 0, none⟩) xs.length xs.length] 27 := Blk.new w1 _ _ _ rfl
  have hR2 : Blk (w1.alloc (.cells #[.slice (some ⟨g, 0, none⟩) xs.length xs.length] 27)) (w.heap.size + 1) #[.slice none 0 0] 27 := hR1.alloc _
  have hg2 : Grew w1 (w1.alloc (.cells #[.slice (some ⟨g, 0, none⟩) xs.length xs.length] 27)) := (Grew.refl w1).alloc _
  generalize (w1.alloc (.cells #[.slice (some ⟨g, 0, none⟩) xs.length xs.length] 27)) = w2 at *
  generalize hFn : w1.heap.size = F at *
  have HFN := Lib.hid hFn
  have hr2 := hr.grew hg2
  have HR2 := Lib.hid hr2
  have hbuf2 := Lib.hid (hr2.buf HB.out.ok)
  have hu2 := Lib.hid (((HU.out.grew hg0).grew g1).grew hg2)
  have cF := hF.cell 0
  have HS0 := Lib.hid hsz0
  clear hFn hr2 hr hsz0
  go_wp2_with fail
  refine (HP.out _ _ _ _ hbuf2.out).mono ?_
  rintro e w3 ⟨a', n', c', rfl, hb3, ha3, g3⟩
  have hF3 := hF.grew g3
  have hR3 := hR2.grew g3
  have hr3 := HR2.out.grew g3
  have hu3 := hu2.out.grew g3
  have g03 : Grew W0 w3 := (g1.trans hg2).trans g3
  have HU3 := Lib.hid hu3
  have HR3 := Lib.hid hr3
  have HO1 := Lib.hid ho1
  clear cF hu3 hr3 ho1
  obtain ⟨hn3, _⟩ := hb3.out.lenEq
  have HN3 := Lib.hid hn3
  clear hn3
  go_upto_region 3 with fail
  go_upto_region 4 with (refine wpList_copy_b rfl (.tmp 21) (.tmp 22) rfl g03 HR3.out rfl HU3.out (by rfl) off _ _ _ (by rfl) ha3.out (by rw [HN3.out]; exact HO1.out) ?_; intro w4 HR4 g4 o4)
  have hF4 := hF3.only o4 (by omega)
  have hR4 := hR3.only o4 (by have := HS0.out; omega)
  have cF := hF4.cell 0
  have cR := hR4.cell 0
  have fR := hR4.free 0
  go_wp2_with fail
  have hset := (hR4.set (o := 0) (.slice (some ⟨g, 0, none⟩) xs.length xs.length)).cell 0
  have hrow := (HR4.out.set (c := w.heap.size + 1) (o := 0) (by have := HS0.out; omega) (.slice (some ⟨g, 0, none⟩) xs.length xs.length)).low (b' := w.heap.size) (by have := HS0.out; omega)
  rw [HN3.out, H3.out] at hrow
  exact bodyPost_ret (v := .tuple #[.agg #[.slice (some ⟨g, 0, none⟩) xs.length xs.length], .bool b]) (by simp [results, Try.results73, go_sem, hset]) rfl ⟨g, rfl, hrow, (hg0.trans g4).setCell (by omega) _⟩

/-! ### Write -/
theorem putL_length (x : Int) (n : Nat) (big : Bool) : (putL x n big).length = n := by simp [putL]
theorem byteV_lt (x : Int) (i : Nat) : 0 ≤ byteV x i ∧ byteV x i < 256 := by unfold byteV; omega
theorem putL_bytes (x : Int) (n : Nat) (big : Bool) : AreBytes (putL x n big) := by
  intro y hy
  obtain ⟨i, _, rfl⟩ := List.mem_map.1 hy
  exact byteV_lt _ _
theorem row_of_put {w w' : World} {v : Value} {x : Int} {n : Nat} {big : Bool} (h : w'.ownsRow w.heap.size 5 1 v n ((putL x n big).map (Value.int .u8))) : Row w' w.heap.size v (putL x n big) := by
  unfold Row; rw [putL_length]; exact h
theorem put_b (y : Int) (n : Nat) (hn : n ≤ 8) (hy0 : 0 ≤ y) (hy1 : y < 18446744073709551616) (w : World) :
    Calls Try.prog 80 #[.int .u64 y, .int .i64 n, .bool false] w fun e w' => ∃ u, e = .returned u ∧ Buf w' u (putL y n false) ∧ Grew w w' :=
  (put_in y n n false hy0 hy1 (by omega) hn w).mono fun _ _ ⟨he, ho, hb⟩ => ⟨_, he, (row_of_put ho).buf (putL_bytes _ _ _), hb⟩
theorem refPut_b (y : Int) (n : Nat) (hn : n ≤ 8) (hy0 : 0 ≤ y) (hy1 : y < 18446744073709551616) (w : World) :
    Calls Try.prog 51 #[.int .u64 y, .int .i64 n, .bool false] w fun e w' => ∃ u, e = .returned u ∧ Buf w' u (putL y n false) ∧ Grew w w' :=
  (refPut_low y n n hy0 hy1 (by omega) w).mono fun _ _ ⟨v, he, ho, hb⟩ => ⟨v, he, (row_of_put ho).buf (putL_bytes _ _ _), hb⟩
/-- Memory xs with the size lowest bytes of y from x on. -/
def writeV (xs : List Int) (x n y : Int) : List Int := if sizeV n then fillV xs x (putL y n.toNat false) else xs
theorem writeV_length (xs : List Int) (x n y : Int) : (writeV xs x n y).length = xs.length := by
  unfold writeV; split
  · exact fillV_length _ _ _
  · rfl
theorem writeV_ok {xs : List Int} (x n y : Int) (h : AreBytes xs) : AreBytes (writeV xs x n y) := by
  unfold writeV; split
  · exact fillV_ok _ h (putL_bytes _ _ _)
  · exact h
theorem size_nat {n : Int} (h : sizeV n = true) : ∃ k : Nat, n = k ∧ k ≤ 8 ∧ 1 ≤ k := by
  unfold sizeV at h
  have := of_decide_eq_true h
  exact ⟨n.toNat, by omega, by omega, by omega⟩

theorem write_no {v : Value} {xs : List Int} (x n y : Int) (hs : sizeV n = false) (w : World) (hb : Buf w v xs) (hl : xs.length ≤ 140737488355328) :
    Calls Try.prog 71 #[.agg #[v], .int .u64 x, .int .i64 n, .int .u64 y] w fun e w' => ∃ g, e = .returned (.tuple #[.agg #[.slice (some ⟨g, 0, none⟩) xs.length xs.length], .bool false]) ∧
      Row w' w.heap.size (.slice (some ⟨g, 0, none⟩) xs.length xs.length) xs ∧ Grew w w' := by
  obtain ⟨a, c, rfl, hc, ha⟩ := hb.shape
  have HB := Lib.hid hb
  have hsz : ∀ w, Calls Try.prog 83 #[.int .i64 n] w fun e w' => e = .returned (.bool false) ∧ w = w' := fun w => by
    have := isSize_c n w
    rwa [hs] at this
  have HS := Lib.hid hsz
  clear hsz hs hb hc ha
  go_enter Try.func71, Try.ntmps71
  go_wp2_with fail
  refine (HS.out _).mono ?_
  rintro e w1 ⟨rfl, rfl⟩
  go_wp2_with fail
  refine (own_c _ (takes_box (takes_box HB.out _ _) _ _) hl).mono ?_
  rintro e w1 ⟨g, rfl, hr, g1⟩
  have hR0 : Blk ((w.alloc (.cells #[.slice a xs.length c] 27)).alloc (.cells #[.slice none 0 0] 27)) (w.heap.size + 1) #[.slice none 0 0] 27 := Blk.new _ _ _ _ (by simp)
  have hg0 : Grew w ((w.alloc (.cells #[.slice a xs.length c] 27)).alloc (.cells #[.slice none 0 0] 27)) := ((Grew.refl w).alloc _).alloc _
  have hsz0 : ((w.alloc (.cells #[.slice a xs.length c] 27)).alloc (.cells #[.slice none 0 0] 27)).heap.size = w.heap.size + 2 := by simp
  generalize ((w.alloc (.cells #[.slice a xs.length c] 27)).alloc (.cells #[.slice none 0 0] 27)) = W0 at *
  have hR1 := hR0.grew g1
  have HR := Lib.hid hr
  have HS0 := Lib.hid hsz0
  clear hr hsz0
  have cR := hR1.cell 0
  have fR := hR1.free 0
  go_wp2_with fail
  have hset := (hR1.set (o := 0) (.slice (some ⟨g, 0, none⟩) xs.length xs.length)).cell 0
  have hrow := (HR.out.set (c := w.heap.size + 1) (o := 0) (by have := HS0.out; omega) (.slice (some ⟨g, 0, none⟩) xs.length xs.length)).low (b' := w.heap.size) (by have := HS0.out; omega)
  exact bodyPost_ret (v := .tuple #[.agg #[.slice (some ⟨g, 0, none⟩) xs.length xs.length], .bool false]) (by simp [results, Try.results71, go_sem, hset]) rfl ⟨g, rfl, hrow, (hg0.trans g1).setCell (by omega) _⟩

set_option maxHeartbeats 400000 in
theorem write_yes {v : Value} {xs : List Int} (x y : Int) (n : Nat) (hx0 : 0 ≤ x) (hx1 : x < 18446744073709551616) (hy0 : 0 ≤ y) (hy1 : y < 18446744073709551616) (hs : sizeV n = true) (hn : n ≤ 8) (w : World) (hb : Buf w v xs) (hl : xs.length ≤ 140737488355328) :
    Calls Try.prog 71 #[.agg #[v], .int .u64 x, .int .i64 n, .int .u64 y] w fun e w' => ∃ g, e = .returned (.tuple #[.agg #[.slice (some ⟨g, 0, none⟩) xs.length xs.length], .bool (insideV xs.length x n)]) ∧
      Row w' w.heap.size (.slice (some ⟨g, 0, none⟩) xs.length xs.length) (fillV xs x (putL y n false)) ∧ Grew w w' := by
  obtain ⟨a, c, rfl, hc, ha⟩ := hb.shape
  have HB := Lib.hid hb
  have hsz : ∀ w, Calls Try.prog 83 #[.int .i64 n] w fun e w' => e = .returned (.bool true) ∧ w = w' := fun w => by
    have := isSize_c n w
    rwa [hs] at this
  have HS := Lib.hid hsz
  have hfill : ∀ (w : World) (u : Value), Buf w (.slice a xs.length c) xs → Buf w u (putL y n false) → Calls Try.prog 73 #[.agg #[.slice a xs.length c], .int .u64 x, u] w fun e w' => ∃ g, e = .returned (.tuple #[.agg #[.slice (some ⟨g, 0, none⟩) xs.length xs.length], .bool (insideV xs.length x n)]) ∧
      Row w' w.heap.size (.slice (some ⟨g, 0, none⟩) xs.length xs.length) (fillV xs x (putL y n false)) ∧ Grew w w' := fun w u h1 h2 => by
    have := fill_c x hx0 hx1 w h1 h2 hl
    rwa [putL_length] at this
  have hput := put_b y n hn hy0 hy1
  generalize hf : fillV xs x (putL y n false) = fs at *
  generalize hi : insideV xs.length x n = b at *
  generalize hp : putL y n false = ps at *
  have HF := Lib.hid hfill
  have HP := Lib.hid hput
  clear hsz hs hb hc ha hfill hput hf hi hp
  go_enter Try.func71, Try.ntmps71
  go_upto_region 1 with fail
  have hB0 : Blk ((w.alloc (.cells #[.slice a xs.length c] 27)).alloc (.cells #[.slice none 0 0] 27)) w.heap.size #[.slice a xs.length c] 27 := (Blk.new _ _ _ _ rfl).alloc _
  have hR0 : Blk ((w.alloc (.cells #[.slice a xs.length c] 27)).alloc (.cells #[.slice none 0 0] 27)) (w.heap.size + 1) #[.slice none 0 0] 27 := Blk.new _ _ _ _ (by simp)
  have hg0 : Grew w ((w.alloc (.cells #[.slice a xs.length c] 27)).alloc (.cells #[.slice none 0 0] 27)) := ((Grew.refl w).alloc _).alloc _
  have hsz0 : ((w.alloc (.cells #[.slice a xs.length c] 27)).alloc (.cells #[.slice none 0 0] 27)).heap.size = w.heap.size + 2 := by simp
  generalize ((w.alloc (.cells #[.slice a xs.length c] 27)).alloc (.cells #[.slice none 0 0] 27)) = W0 at *
  have HB0 := Lib.hid (HB.out.grew hg0)
  have HS0 := Lib.hid hsz0
  clear hsz0
  have cB := hB0.cell 0
  go_wp2_with fail
  refine (HS.out _).mono ?_
  rintro e w1 ⟨rfl, rfl⟩
  go_upto_region 3 with fail
  go_region_held3 (fun w' => w'.cell? ⟨w.heap.size, 0, none⟩ = some (.slice a xs.length c)) (go_keep)
    (first
      | (go_at_call 80; refine (HP.out _).mono ?_; rintro e w5 ⟨u, rfl, hu5, g5⟩; have g05 := (Grew.refl W0).drew1.trans g5; have HU5 := Lib.hid hu5; clear hu5; have c5 : w5.cell? ⟨w.heap.size, 0, none⟩ = some (.slice a xs.length c) := ((hB0.grew g05).cell 0).trans rfl)
      | (go_at_call 73; refine (HF.out _ _ (HB0.out.grew g05) HU5.out).mono ?_; rintro e w6 ⟨g, rfl, hr6, g6⟩; have g06 := g05.trans g6; have HR6 := Lib.hid hr6; clear hr6; have c6 : w6.cell? ⟨w.heap.size, 0, none⟩ = some (.slice a xs.length c) := ((hB0.grew g06).cell 0).trans rfl; have cR := (hR0.grew g06).cell 0; have fR := (hR0.grew g06).free 0))
  go_wp2_with fail
  have hset := ((hR0.grew g06).set (o := 0) (.slice (some ⟨g, 0, none⟩) xs.length xs.length)).cell 0
  have hrow := (HR6.out.set (c := w.heap.size + 1) (o := 0) (by have := HS0.out; have := g05.size; omega) (.slice (some ⟨g, 0, none⟩) xs.length xs.length)).low (b' := w.heap.size) (by have := HS0.out; have := g05.size; omega)
  exact bodyPost_ret (v := .tuple #[.agg #[.slice (some ⟨g, 0, none⟩) xs.length xs.length], .bool b]) (by simp [results, Try.results71, go_sem, hset]) rfl ⟨g, rfl, hrow, (hg0.trans g06).setCell (by omega) _⟩

theorem write_c {v : Value} {xs : List Int} (x n y : Int) (hx0 : 0 ≤ x) (hx1 : x < 18446744073709551616) (hy0 : 0 ≤ y) (hy1 : y < 18446744073709551616) (w : World) (hb : Buf w v xs) (hl : xs.length ≤ 140737488355328) :
    Calls Try.prog 71 #[.agg #[v], .int .u64 x, .int .i64 n, .int .u64 y] w fun e w' => ∃ g, e = .returned (.tuple #[.agg #[.slice (some ⟨g, 0, none⟩) xs.length xs.length], .bool (sizeV n && insideV xs.length x n)]) ∧
      Row w' w.heap.size (.slice (some ⟨g, 0, none⟩) xs.length xs.length) (writeV xs x n y) ∧ Grew w w' := by
  cases hs : sizeV n
  · have := write_no x n y hs w hb hl
    unfold writeV
    rw [hs]
    exact this
  · obtain ⟨k, rfl, hk, _⟩ := size_nat hs
    have := write_yes x y k hx0 hx1 hy0 hy1 hs hk w hb hl
    unfold writeV
    rw [hs, Int.toNat_natCast]
    exact this

/-! ### New -/
theorem AreBytes.zeros (n : Nat) : AreBytes (List.replicate n 0) := by
  intro x hx
  rw [(List.mem_replicate.1 hx).2]; omega
end Go.Proofs.Ytoehdhhodidehaa
