/-
  The document's own Get of a segment.
-/
import Derived.Test.YtiaejlbkdgcfiaaSgM
import Derived.Test.YtiaejlbkdgcfiaaDeps
set_option maxRecDepth 4000
set_option linter.unusedVariables false
set_option linter.unusedSimpArgs false
namespace Go.Proofs.Ytiaejlbkdgcfiaa
open Go.RowKit

theorem sgInfo : (Try.prog.info? 25).map (·.size) = some 8 := by kernel_rfl
theorem refGetS_short (a : Option Addr) (n c : Nat) (src dst : Int) (hs : (n : Int) < 20) (w : World) :
    Calls Try.prog 11 #[.slice a n c, .int .u32 src, .int .u32 dst] w fun e w' => ∃ u, e = .returned (.tuple #[u, .int .i64 160]) ∧ Sg w' u zSG ∧ Grew w w' := by
  go_enter Try.func11, Try.ntmps11
  go_upto_region 1 with fail
  have hR : Blk (w.alloc (.cells #[.int .i64 0, .int .i64 0, .int .u32 0, .int .u32 0, .int .i64 0, .int .i64 0, .int .i64 0, .slice none 0 0] 25)) w.heap.size #[.int .i64 0, .int .i64 0, .int .u32 0, .int .u32 0, .int .i64 0, .int .i64 0, .int .i64 0, .slice none 0 0] 25 := Blk.new _ _ _ _ rfl
  have G : Grew w (w.alloc (.cells #[.int .i64 0, .int .i64 0, .int .u32 0, .int .u32 0, .int .i64 0, .int .i64 0, .int .i64 0, .slice none 0 0] 25)) := (Grew.refl _).alloc _
  generalize (w.alloc (.cells #[.int .i64 0, .int .i64 0, .int .u32 0, .int .u32 0, .int .i64 0, .int .i64 0, .int .i64 0, .slice none 0 0] 25)) = w0 at *
  generalize hlR : w.heap.size = R at *
  have y0 := hR.cell 0
  have y1 := hR.cell 1
  have y2 := hR.cell 2
  have y3 := hR.cell 3
  have y4 := hR.cell 4
  have y5 := hR.cell 5
  have y6 := hR.cell 6
  have y7 := hR.cell 7
  have f0 := hR.free 0
  have f1 := hR.free 1
  have f2 := hR.free 2
  have f3 := hR.free 3
  have f4 := hR.free 4
  have f5 := hR.free 5
  have f6 := hR.free 6
  have f7 := hR.free 7
  go_wp2_with fail
  have E := ((((((((hR.set (o := 0) (.int .i64 0)).set (o := 1) (.int .i64 0)).set (o := 2) (.int .u32 0)).set (o := 3) (.int .u32 0)).set (o := 4) (.int .i64 0)).set (o := 5) (.int .i64 0)).set (o := 6) (.int .i64 0)).set (o := 7) (.slice none 0 0))
  have GE := ((((((((G.setCell (b := R) (o := 0) (by omega) (.int .i64 0)).setCell (b := R) (o := 1) (by omega) (.int .i64 0)).setCell (b := R) (o := 2) (by omega) (.int .u32 0)).setCell (b := R) (o := 3) (by omega) (.int .u32 0)).setCell (b := R) (o := 4) (by omega) (.int .i64 0)).setCell (b := R) (o := 5) (by omega) (.int .i64 0)).setCell (b := R) (o := 6) (by omega) (.int .i64 0)).setCell (b := R) (o := 7) (by omega) (.slice none 0 0))
  have z0 := E.cell 0
  have z1 := E.cell 1
  have z2 := E.cell 2
  have z3 := E.cell 3
  have z4 := E.cell 4
  have z5 := E.cell 5
  have z6 := E.cell 6
  have z7 := E.cell 7
  exact bodyPost_ret (v := .tuple #[.agg #[.int .i64 0, .int .i64 0, .int .u32 0, .int .u32 0, .int .i64 0, .int .i64 0, .int .i64 0, .slice none 0 0], .int .i64 160]) (by simp [results, Try.results11, go_sem, z0, z1, z2, z3, z4, z5, z6, z7]) rfl ⟨_, rfl, Sg.zero _, GE⟩
set_option maxHeartbeats 2000000 in
theorem refGetS_1 (a : Option Addr) (n c : Nat) (xs : List Int) (src dst : Int) (hsr : 0 ≤ src ∧ src < 4294967296) (hdr : 0 ≤ dst ∧ dst < 4294967296) (hs : ¬ ((n : Int) < 20)) {w : World} (hb : Buf w (.slice a n c) xs) (h1 : (65535 : Int) < (n : Nat)) :
    Calls Try.prog 11 #[.slice a n c, .int .u32 src, .int .u32 dst] w fun e w' => ∃ u, e = .returned (.tuple #[u, .int .i64 161]) ∧ Sg w' u zSG ∧ Grew w w' := by
  have hn := hb.lenEq.1
  have hne : xs ≠ [] := by rintro rfl; simp at hn; omega
  obtain ⟨_, _, ea, _, hat⟩ := hb.shape
  simp only [Value.slice.injEq] at ea
  obtain ⟨rfl, hn', rfl⟩ := ea
  clear hn'
  obtain ⟨bk, off, rfl, hat2⟩ := hat hne
  have HBL := Lib.hid (hat2.lt hne)
  have hx12 := hb.ok.getD 12
  have hM : xs.getD 12 0 / 16 * 4 = ((hoSG xs : Nat) : Int) := by unfold hoSG; omega
  have HC12 : Hid (w.cell? ⟨bk, off + 12, none⟩ = some (.int .u8 (xs.getD 12 0))) := Lib.hid (hat2 12 (by omega))
  have HMB := Lib.hid (show hoSG xs ≤ 60 by unfold hoSG; omega)
  have EW0 : (xs.getD 12 0).tdiv 16 % 256 = xs.getD 12 0 / 16 := by rw [Int.tdiv_eq_ediv_of_nonneg (by omega)]; omega
  have EW1 : IntKind.i64.wrap (xs.getD 12 0 / 16) = xs.getD 12 0 / 16 := IntWalk.i64_in _ (by omega)
  have EW2 : xs.getD 12 0 / 16 * 4 = ((hoSG xs : Nat) : Int) := hM
  have EW3 : wrap64 ((hoSG xs : Nat) : Int) = ((hoSG xs : Nat) : Int) := IntWalk.wrap64_in _ (by have := HMB.out; omega)
  have HAT := Lib.hid hat2
  have HB := Lib.hid hb
  have k12 : (12 : Int) < (n : Nat) := by omega
  clear hat hat2 hne hM
  clear hb hn
  generalize hoSG xs = N at *
  generalize xs.getD 12 0 = y12 at *
  go_enter Try.func11, Try.ntmps11
  go_upto_region 1 with fail
  have hR : Blk (w.alloc (.cells #[.int .i64 0, .int .i64 0, .int .u32 0, .int .u32 0, .int .i64 0, .int .i64 0, .int .i64 0, .slice none 0 0] 25)) w.heap.size #[.int .i64 0, .int .i64 0, .int .u32 0, .int .u32 0, .int .i64 0, .int .i64 0, .int .i64 0, .slice none 0 0] 25 := Blk.new _ _ _ _ rfl
  have G : Grew w (w.alloc (.cells #[.int .i64 0, .int .i64 0, .int .u32 0, .int .u32 0, .int .i64 0, .int .i64 0, .int .i64 0, .slice none 0 0] 25)) := (Grew.refl _).alloc _
  generalize (w.alloc (.cells #[.int .i64 0, .int .i64 0, .int .u32 0, .int .u32 0, .int .i64 0, .int .i64 0, .int .i64 0, .slice none 0 0] 25)) = w0 at *
  generalize hlR : w.heap.size = R at *
  have x12 : w0.cell? ⟨bk, off + 12, none⟩ = some (.int .u8 y12) := by rw [(gcell G).1 bk _ (by rw [hlR]; exact HBL.out)]; exact HC12.out
  have y0 := hR.cell 0
  have y1 := hR.cell 1
  have y2 := hR.cell 2
  have y3 := hR.cell 3
  have y4 := hR.cell 4
  have y5 := hR.cell 5
  have y6 := hR.cell 6
  have y7 := hR.cell 7
  have f0 := hR.free 0
  have f1 := hR.free 1
  have f2 := hR.free 2
  have f3 := hR.free 3
  have f4 := hR.free 4
  have f5 := hR.free 5
  have f6 := hR.free 6
  have f7 := hR.free 7
  go_wp2_with fail
  have E := ((((((((hR.set (o := 0) (.int .i64 0)).set (o := 1) (.int .i64 0)).set (o := 2) (.int .u32 0)).set (o := 3) (.int .u32 0)).set (o := 4) (.int .i64 0)).set (o := 5) (.int .i64 0)).set (o := 6) (.int .i64 0)).set (o := 7) (.slice none 0 0))
  have GE := ((((((((G.setCell (b := R) (o := 0) (by omega) (.int .i64 0)).setCell (b := R) (o := 1) (by omega) (.int .i64 0)).setCell (b := R) (o := 2) (by omega) (.int .u32 0)).setCell (b := R) (o := 3) (by omega) (.int .u32 0)).setCell (b := R) (o := 4) (by omega) (.int .i64 0)).setCell (b := R) (o := 5) (by omega) (.int .i64 0)).setCell (b := R) (o := 6) (by omega) (.int .i64 0)).setCell (b := R) (o := 7) (by omega) (.slice none 0 0))
  have z0 := E.cell 0
  have z1 := E.cell 1
  have z2 := E.cell 2
  have z3 := E.cell 3
  have z4 := E.cell 4
  have z5 := E.cell 5
  have z6 := E.cell 6
  have z7 := E.cell 7
  exact bodyPost_ret (v := .tuple #[.agg #[.int .i64 0, .int .i64 0, .int .u32 0, .int .u32 0, .int .i64 0, .int .i64 0, .int .i64 0, .slice none 0 0], .int .i64 161]) (by simp [results, Try.results11, go_sem, z0, z1, z2, z3, z4, z5, z6, z7]) rfl ⟨_, rfl, Sg.zero _, GE⟩
set_option maxHeartbeats 2000000 in
theorem refGetS_2 (a : Option Addr) (n c : Nat) (xs : List Int) (src dst : Int) (hsr : 0 ≤ src ∧ src < 4294967296) (hdr : 0 ≤ dst ∧ dst < 4294967296) (hs : ¬ ((n : Int) < 20)) {w : World} (hb : Buf w (.slice a n c) xs) (h1 : ¬ ((65535 : Int) < (n : Nat))) (h2 : hoSG xs < 20) :
    Calls Try.prog 11 #[.slice a n c, .int .u32 src, .int .u32 dst] w fun e w' => ∃ u, e = .returned (.tuple #[u, .int .i64 161]) ∧ Sg w' u zSG ∧ Grew w w' := by
  have hn := hb.lenEq.1
  have hne : xs ≠ [] := by rintro rfl; simp at hn; omega
  obtain ⟨_, _, ea, _, hat⟩ := hb.shape
  simp only [Value.slice.injEq] at ea
  obtain ⟨rfl, hn', rfl⟩ := ea
  clear hn'
  obtain ⟨bk, off, rfl, hat2⟩ := hat hne
  have HBL := Lib.hid (hat2.lt hne)
  have hx12 := hb.ok.getD 12
  have hM : xs.getD 12 0 / 16 * 4 = ((hoSG xs : Nat) : Int) := by unfold hoSG; omega
  have HC12 : Hid (w.cell? ⟨bk, off + 12, none⟩ = some (.int .u8 (xs.getD 12 0))) := Lib.hid (hat2 12 (by omega))
  have HMB := Lib.hid (show hoSG xs ≤ 60 by unfold hoSG; omega)
  have EW0 : (xs.getD 12 0).tdiv 16 % 256 = xs.getD 12 0 / 16 := by rw [Int.tdiv_eq_ediv_of_nonneg (by omega)]; omega
  have EW1 : IntKind.i64.wrap (xs.getD 12 0 / 16) = xs.getD 12 0 / 16 := IntWalk.i64_in _ (by omega)
  have EW2 : xs.getD 12 0 / 16 * 4 = ((hoSG xs : Nat) : Int) := hM
  have EW3 : wrap64 ((hoSG xs : Nat) : Int) = ((hoSG xs : Nat) : Int) := IntWalk.wrap64_in _ (by have := HMB.out; omega)
  have HAT := Lib.hid hat2
  have HB := Lib.hid hb
  have k12 : (12 : Int) < (n : Nat) := by omega
  clear hat hat2 hne hM
  have k2 : (((hoSG xs : Nat) : Int) < 20) := by omega
  clear hb hn h2
  generalize hoSG xs = N at *
  generalize xs.getD 12 0 = y12 at *
  go_enter Try.func11, Try.ntmps11
  go_upto_region 1 with fail
  have hR : Blk (w.alloc (.cells #[.int .i64 0, .int .i64 0, .int .u32 0, .int .u32 0, .int .i64 0, .int .i64 0, .int .i64 0, .slice none 0 0] 25)) w.heap.size #[.int .i64 0, .int .i64 0, .int .u32 0, .int .u32 0, .int .i64 0, .int .i64 0, .int .i64 0, .slice none 0 0] 25 := Blk.new _ _ _ _ rfl
  have G : Grew w (w.alloc (.cells #[.int .i64 0, .int .i64 0, .int .u32 0, .int .u32 0, .int .i64 0, .int .i64 0, .int .i64 0, .slice none 0 0] 25)) := (Grew.refl _).alloc _
  generalize (w.alloc (.cells #[.int .i64 0, .int .i64 0, .int .u32 0, .int .u32 0, .int .i64 0, .int .i64 0, .int .i64 0, .slice none 0 0] 25)) = w0 at *
  generalize hlR : w.heap.size = R at *
  have x12 : w0.cell? ⟨bk, off + 12, none⟩ = some (.int .u8 y12) := by rw [(gcell G).1 bk _ (by rw [hlR]; exact HBL.out)]; exact HC12.out
  have y0 := hR.cell 0
  have y1 := hR.cell 1
  have y2 := hR.cell 2
  have y3 := hR.cell 3
  have y4 := hR.cell 4
  have y5 := hR.cell 5
  have y6 := hR.cell 6
  have y7 := hR.cell 7
  have f0 := hR.free 0
  have f1 := hR.free 1
  have f2 := hR.free 2
  have f3 := hR.free 3
  have f4 := hR.free 4
  have f5 := hR.free 5
  have f6 := hR.free 6
  have f7 := hR.free 7
  go_wp2_with fail
  have E := ((((((((hR.set (o := 0) (.int .i64 0)).set (o := 1) (.int .i64 0)).set (o := 2) (.int .u32 0)).set (o := 3) (.int .u32 0)).set (o := 4) (.int .i64 0)).set (o := 5) (.int .i64 0)).set (o := 6) (.int .i64 0)).set (o := 7) (.slice none 0 0))
  have GE := ((((((((G.setCell (b := R) (o := 0) (by omega) (.int .i64 0)).setCell (b := R) (o := 1) (by omega) (.int .i64 0)).setCell (b := R) (o := 2) (by omega) (.int .u32 0)).setCell (b := R) (o := 3) (by omega) (.int .u32 0)).setCell (b := R) (o := 4) (by omega) (.int .i64 0)).setCell (b := R) (o := 5) (by omega) (.int .i64 0)).setCell (b := R) (o := 6) (by omega) (.int .i64 0)).setCell (b := R) (o := 7) (by omega) (.slice none 0 0))
  have z0 := E.cell 0
  have z1 := E.cell 1
  have z2 := E.cell 2
  have z3 := E.cell 3
  have z4 := E.cell 4
  have z5 := E.cell 5
  have z6 := E.cell 6
  have z7 := E.cell 7
  exact bodyPost_ret (v := .tuple #[.agg #[.int .i64 0, .int .i64 0, .int .u32 0, .int .u32 0, .int .i64 0, .int .i64 0, .int .i64 0, .slice none 0 0], .int .i64 161]) (by simp [results, Try.results11, go_sem, z0, z1, z2, z3, z4, z5, z6, z7]) rfl ⟨_, rfl, Sg.zero _, GE⟩
set_option maxHeartbeats 2000000 in
theorem refGetS_3 (a : Option Addr) (n c : Nat) (xs : List Int) (src dst : Int) (hsr : 0 ≤ src ∧ src < 4294967296) (hdr : 0 ≤ dst ∧ dst < 4294967296) (hs : ¬ ((n : Int) < 20)) {w : World} (hb : Buf w (.slice a n c) xs) (h1 : ¬ ((65535 : Int) < (n : Nat))) (h2 : ¬ hoSG xs < 20) (h3 : xs.length < hoSG xs) :
    Calls Try.prog 11 #[.slice a n c, .int .u32 src, .int .u32 dst] w fun e w' => ∃ u, e = .returned (.tuple #[u, .int .i64 160]) ∧ Sg w' u zSG ∧ Grew w w' := by
  have hn := hb.lenEq.1
  have hne : xs ≠ [] := by rintro rfl; simp at hn; omega
  obtain ⟨_, _, ea, _, hat⟩ := hb.shape
  simp only [Value.slice.injEq] at ea
  obtain ⟨rfl, hn', rfl⟩ := ea
  clear hn'
  obtain ⟨bk, off, rfl, hat2⟩ := hat hne
  have HBL := Lib.hid (hat2.lt hne)
  have hx12 := hb.ok.getD 12
  have hM : xs.getD 12 0 / 16 * 4 = ((hoSG xs : Nat) : Int) := by unfold hoSG; omega
  have HC12 : Hid (w.cell? ⟨bk, off + 12, none⟩ = some (.int .u8 (xs.getD 12 0))) := Lib.hid (hat2 12 (by omega))
  have HMB := Lib.hid (show hoSG xs ≤ 60 by unfold hoSG; omega)
  have EW0 : (xs.getD 12 0).tdiv 16 % 256 = xs.getD 12 0 / 16 := by rw [Int.tdiv_eq_ediv_of_nonneg (by omega)]; omega
  have EW1 : IntKind.i64.wrap (xs.getD 12 0 / 16) = xs.getD 12 0 / 16 := IntWalk.i64_in _ (by omega)
  have EW2 : xs.getD 12 0 / 16 * 4 = ((hoSG xs : Nat) : Int) := hM
  have EW3 : wrap64 ((hoSG xs : Nat) : Int) = ((hoSG xs : Nat) : Int) := IntWalk.wrap64_in _ (by have := HMB.out; omega)
  have HAT := Lib.hid hat2
  have HB := Lib.hid hb
  have k12 : (12 : Int) < (n : Nat) := by omega
  clear hat hat2 hne hM
  have k2 : ¬ (((hoSG xs : Nat) : Int) < 20) := by omega
  have k3 : (((n : Nat) : Int) < ((hoSG xs : Nat) : Int)) := by omega
  clear hb hn h1 h2 h3
  generalize hoSG xs = N at *
  generalize xs.getD 12 0 = y12 at *
  go_enter Try.func11, Try.ntmps11
  go_upto_region 1 with fail
  have hR : Blk (w.alloc (.cells #[.int .i64 0, .int .i64 0, .int .u32 0, .int .u32 0, .int .i64 0, .int .i64 0, .int .i64 0, .slice none 0 0] 25)) w.heap.size #[.int .i64 0, .int .i64 0, .int .u32 0, .int .u32 0, .int .i64 0, .int .i64 0, .int .i64 0, .slice none 0 0] 25 := Blk.new _ _ _ _ rfl
  have G : Grew w (w.alloc (.cells #[.int .i64 0, .int .i64 0, .int .u32 0, .int .u32 0, .int .i64 0, .int .i64 0, .int .i64 0, .slice none 0 0] 25)) := (Grew.refl _).alloc _
  generalize (w.alloc (.cells #[.int .i64 0, .int .i64 0, .int .u32 0, .int .u32 0, .int .i64 0, .int .i64 0, .int .i64 0, .slice none 0 0] 25)) = w0 at *
  generalize hlR : w.heap.size = R at *
  have x12 : w0.cell? ⟨bk, off + 12, none⟩ = some (.int .u8 y12) := by rw [(gcell G).1 bk _ (by rw [hlR]; exact HBL.out)]; exact HC12.out
  have y0 := hR.cell 0
  have y1 := hR.cell 1
  have y2 := hR.cell 2
  have y3 := hR.cell 3
  have y4 := hR.cell 4
  have y5 := hR.cell 5
  have y6 := hR.cell 6
  have y7 := hR.cell 7
  have f0 := hR.free 0
  have f1 := hR.free 1
  have f2 := hR.free 2
  have f3 := hR.free 3
  have f4 := hR.free 4
  have f5 := hR.free 5
  have f6 := hR.free 6
  have f7 := hR.free 7
  go_wp2_with fail
  have E := ((((((((hR.set (o := 0) (.int .i64 0)).set (o := 1) (.int .i64 0)).set (o := 2) (.int .u32 0)).set (o := 3) (.int .u32 0)).set (o := 4) (.int .i64 0)).set (o := 5) (.int .i64 0)).set (o := 6) (.int .i64 0)).set (o := 7) (.slice none 0 0))
  have GE := ((((((((G.setCell (b := R) (o := 0) (by omega) (.int .i64 0)).setCell (b := R) (o := 1) (by omega) (.int .i64 0)).setCell (b := R) (o := 2) (by omega) (.int .u32 0)).setCell (b := R) (o := 3) (by omega) (.int .u32 0)).setCell (b := R) (o := 4) (by omega) (.int .i64 0)).setCell (b := R) (o := 5) (by omega) (.int .i64 0)).setCell (b := R) (o := 6) (by omega) (.int .i64 0)).setCell (b := R) (o := 7) (by omega) (.slice none 0 0))
  have z0 := E.cell 0
  have z1 := E.cell 1
  have z2 := E.cell 2
  have z3 := E.cell 3
  have z4 := E.cell 4
  have z5 := E.cell 5
  have z6 := E.cell 6
  have z7 := E.cell 7
  exact bodyPost_ret (v := .tuple #[.agg #[.int .i64 0, .int .i64 0, .int .u32 0, .int .u32 0, .int .i64 0, .int .i64 0, .int .i64 0, .slice none 0 0], .int .i64 160]) (by simp [results, Try.results11, go_sem, z0, z1, z2, z3, z4, z5, z6, z7]) rfl ⟨_, rfl, Sg.zero _, GE⟩
set_option maxHeartbeats 2000000 in
theorem refGetS_4 (a : Option Addr) (n c : Nat) (xs : List Int) (src dst : Int) (hsr : 0 ≤ src ∧ src < 4294967296) (hdr : 0 ≤ dst ∧ dst < 4294967296) (hs : ¬ ((n : Int) < 20)) {w : World} (hb : Buf w (.slice a n c) xs) (h1 : ¬ ((65535 : Int) < (n : Nat))) (h2 : ¬ hoSG xs < 20) (h3 : ¬ xs.length < hoSG xs) (h4 : ¬ sumV (psSG src dst xs.length ++ xs) = 0) :
    Calls Try.prog 11 #[.slice a n c, .int .u32 src, .int .u32 dst] w fun e w' => ∃ u, e = .returned (.tuple #[u, .int .i64 162]) ∧ Sg w' u zSG ∧ Grew w w' := by
  have hn := hb.lenEq.1
  have hne : xs ≠ [] := by rintro rfl; simp at hn; omega
  obtain ⟨_, _, ea, _, hat⟩ := hb.shape
  simp only [Value.slice.injEq] at ea
  obtain ⟨rfl, hn', rfl⟩ := ea
  clear hn'
  obtain ⟨bk, off, rfl, hat2⟩ := hat hne
  have HBL := Lib.hid (hat2.lt hne)
  have hx12 := hb.ok.getD 12
  have hM : xs.getD 12 0 / 16 * 4 = ((hoSG xs : Nat) : Int) := by unfold hoSG; omega
  have HC12 : Hid (w.cell? ⟨bk, off + 12, none⟩ = some (.int .u8 (xs.getD 12 0))) := Lib.hid (hat2 12 (by omega))
  have HMB := Lib.hid (show hoSG xs ≤ 60 by unfold hoSG; omega)
  have EW0 : (xs.getD 12 0).tdiv 16 % 256 = xs.getD 12 0 / 16 := by rw [Int.tdiv_eq_ediv_of_nonneg (by omega)]; omega
  have EW1 : IntKind.i64.wrap (xs.getD 12 0 / 16) = xs.getD 12 0 / 16 := IntWalk.i64_in _ (by omega)
  have EW2 : xs.getD 12 0 / 16 * 4 = ((hoSG xs : Nat) : Int) := hM
  have EW3 : wrap64 ((hoSG xs : Nat) : Int) = ((hoSG xs : Nat) : Int) := IntWalk.wrap64_in _ (by have := HMB.out; omega)
  have HAT := Lib.hid hat2
  have HB := Lib.hid hb
  have k12 : (12 : Int) < (n : Nat) := by omega
  clear hat hat2 hne hM
  have k2 : ¬ (((hoSG xs : Nat) : Int) < 20) := by omega
  have k3 : ¬ (((n : Nat) : Int) < ((hoSG xs : Nat) : Int)) := by omega
  have HNN := Lib.hid hn
  have HSM := Lib.hid (show decide (sumV (psSG src dst n ++ xs) = 0) = false by rw [hn]; exact decide_eq_false h4)
  have HL9 := Lib.hid (show (psSG src dst n).length + xs.length ≤ 140737488355328 by rw [psSG_len]; omega)
  have HO9 := Lib.hid ((psSG_ok src dst n).append hb.ok)
  clear h4
  clear hb hn h2 h3
  generalize hoSG xs = N at *
  generalize xs.getD 12 0 = y12 at *
  go_enter Try.func11, Try.ntmps11
  go_upto_region 1 with fail
  have hR : Blk (w.alloc (.cells #[.int .i64 0, .int .i64 0, .int .u32 0, .int .u32 0, .int .i64 0, .int .i64 0, .int .i64 0, .slice none 0 0] 25)) w.heap.size #[.int .i64 0, .int .i64 0, .int .u32 0, .int .u32 0, .int .i64 0, .int .i64 0, .int .i64 0, .slice none 0 0] 25 := Blk.new _ _ _ _ rfl
  have G : Grew w (w.alloc (.cells #[.int .i64 0, .int .i64 0, .int .u32 0, .int .u32 0, .int .i64 0, .int .i64 0, .int .i64 0, .slice none 0 0] 25)) := (Grew.refl _).alloc _
  generalize (w.alloc (.cells #[.int .i64 0, .int .i64 0, .int .u32 0, .int .u32 0, .int .i64 0, .int .i64 0, .int .i64 0, .slice none 0 0] 25)) = w0 at *
  generalize hlR : w.heap.size = R at *
  have x12 : w0.cell? ⟨bk, off + 12, none⟩ = some (.int .u8 y12) := by rw [(gcell G).1 bk _ (by rw [hlR]; exact HBL.out)]; exact HC12.out
  go_wp2_with fail
  refine (refPseudo_c src dst 6 (n : Nat) hsr hdr (by omega) (by omega) w0).mono ?_
  rintro e wp ⟨u1, rfl, rp, bp, gp⟩
  have HP := Lib.hid rp
  have HBP := Lib.hid (HB.out.grew (G.trans gp))
  clear rp bp x12
  go_upto_region 9 with (first
    | (refine wpList_append_b (W := w0) rfl (.tmp 39) (.tmp 40) rfl gp HP.out HBP.out (by rfl) (by rfl) HL9.out ?_; intro vz wz RZ gz xz; clear xz)
    | (go_at_call 34; refine (refRight_c _ (RZ.out.buf HO9.out) (by rw [List.length_append]; exact HL9.out)).mono ?_; rintro e w3 ⟨rfl, g3⟩; rw [show decide (sumV (pseudoV src dst 6 ((n : Nat) : Int) ++ xs) = 0) = false from HSM.out]))
  have G3 := G.trans (gz.trans g3)
  have hR3 := hR.grew (gz.trans g3)
  clear HP HBP gp RZ gz g3 hR
  have y0 := hR3.cell 0
  have y1 := hR3.cell 1
  have y2 := hR3.cell 2
  have y3 := hR3.cell 3
  have y4 := hR3.cell 4
  have y5 := hR3.cell 5
  have y6 := hR3.cell 6
  have y7 := hR3.cell 7
  have f0 := hR3.free 0
  have f1 := hR3.free 1
  have f2 := hR3.free 2
  have f3 := hR3.free 3
  have f4 := hR3.free 4
  have f5 := hR3.free 5
  have f6 := hR3.free 6
  have f7 := hR3.free 7
  go_wp2_with fail
  have E := ((((((((hR3.set (o := 0) (.int .i64 0)).set (o := 1) (.int .i64 0)).set (o := 2) (.int .u32 0)).set (o := 3) (.int .u32 0)).set (o := 4) (.int .i64 0)).set (o := 5) (.int .i64 0)).set (o := 6) (.int .i64 0)).set (o := 7) (.slice none 0 0))
  have GE := ((((((((G3.setCell (b := R) (o := 0) (by omega) (.int .i64 0)).setCell (b := R) (o := 1) (by omega) (.int .i64 0)).setCell (b := R) (o := 2) (by omega) (.int .u32 0)).setCell (b := R) (o := 3) (by omega) (.int .u32 0)).setCell (b := R) (o := 4) (by omega) (.int .i64 0)).setCell (b := R) (o := 5) (by omega) (.int .i64 0)).setCell (b := R) (o := 6) (by omega) (.int .i64 0)).setCell (b := R) (o := 7) (by omega) (.slice none 0 0))
  have z0 := E.cell 0
  have z1 := E.cell 1
  have z2 := E.cell 2
  have z3 := E.cell 3
  have z4 := E.cell 4
  have z5 := E.cell 5
  have z6 := E.cell 6
  have z7 := E.cell 7
  exact bodyPost_ret (v := .tuple #[.agg #[.int .i64 0, .int .i64 0, .int .u32 0, .int .u32 0, .int .i64 0, .int .i64 0, .int .i64 0, .slice none 0 0], .int .i64 162]) (by simp [results, Try.results11, go_sem, z0, z1, z2, z3, z4, z5, z6, z7]) rfl ⟨_, rfl, Sg.zero _, GE⟩
set_option maxHeartbeats 2000000 in
theorem refGetS_5 (a : Option Addr) (n c : Nat) (xs : List Int) (src dst : Int) (hsr : 0 ≤ src ∧ src < 4294967296) (hdr : 0 ≤ dst ∧ dst < 4294967296) (hs : ¬ ((n : Int) < 20)) {w : World} (hb : Buf w (.slice a n c) xs) (h1 : ¬ ((65535 : Int) < (n : Nat))) (h2 : ¬ hoSG xs < 20) (h3 : ¬ xs.length < hoSG xs) (h4 : sumV (psSG src dst xs.length ++ xs) = 0) (h5 : (mssV (cutL xs 20 (hoSG xs))).2 = false) :
    Calls Try.prog 11 #[.slice a n c, .int .u32 src, .int .u32 dst] w fun e w' => ∃ u, e = .returned (.tuple #[u, .int .i64 161]) ∧ Sg w' u zSG ∧ Grew w w' := by
  have hn := hb.lenEq.1
  have hne : xs ≠ [] := by rintro rfl; simp at hn; omega
  obtain ⟨_, _, ea, _, hat⟩ := hb.shape
  simp only [Value.slice.injEq] at ea
  obtain ⟨rfl, hn', rfl⟩ := ea
  clear hn'
  obtain ⟨bk, off, rfl, hat2⟩ := hat hne
  have HBL := Lib.hid (hat2.lt hne)
  have hx12 := hb.ok.getD 12
  have hM : xs.getD 12 0 / 16 * 4 = ((hoSG xs : Nat) : Int) := by unfold hoSG; omega
  have HC12 : Hid (w.cell? ⟨bk, off + 12, none⟩ = some (.int .u8 (xs.getD 12 0))) := Lib.hid (hat2 12 (by omega))
  have HMB := Lib.hid (show hoSG xs ≤ 60 by unfold hoSG; omega)
  have EW0 : (xs.getD 12 0).tdiv 16 % 256 = xs.getD 12 0 / 16 := by rw [Int.tdiv_eq_ediv_of_nonneg (by omega)]; omega
  have EW1 : IntKind.i64.wrap (xs.getD 12 0 / 16) = xs.getD 12 0 / 16 := IntWalk.i64_in _ (by omega)
  have EW2 : xs.getD 12 0 / 16 * 4 = ((hoSG xs : Nat) : Int) := hM
  have EW3 : wrap64 ((hoSG xs : Nat) : Int) = ((hoSG xs : Nat) : Int) := IntWalk.wrap64_in _ (by have := HMB.out; omega)
  have HAT := Lib.hid hat2
  have HB := Lib.hid hb
  have k12 : (12 : Int) < (n : Nat) := by omega
  clear hat hat2 hne hM
  have k2 : ¬ (((hoSG xs : Nat) : Int) < 20) := by omega
  have k3 : ¬ (((n : Nat) : Int) < ((hoSG xs : Nat) : Int)) := by omega
  have HNN := Lib.hid hn
  have HSM := Lib.hid (show decide (sumV (psSG src dst n ++ xs) = 0) = true by rw [hn]; exact decide_eq_true h4)
  have HL9 := Lib.hid (show (psSG src dst n).length + xs.length ≤ 140737488355328 by rw [psSG_len]; omega)
  have HO9 := Lib.hid ((psSG_ok src dst n).append hb.ok)
  clear h4
  have h20 : 20 ≤ hoSG xs := by omega
  obtain ⟨ao, co, HOB, z1, hrun, z3, z4⟩ := hb.run_cut (lo := 20) (hi := hoSG xs) (by omega) (by omega)
  have r20 : ∀ w', (Instr.sliceAt 23 (.slice (some ⟨bk, off, none⟩) n c) (some (.int .i64 20)) (some (.int .i64 ((hoSG xs : Nat) : Int))) none).run Try.prog w' = .ok (.slice ao (hoSG xs - 20) co) w' := hrun .i64 .i64
  clear z1 z3 z4 hrun
  have hlo : (cutL xs 20 (hoSG xs)).length = hoSG xs - 20 := by rw [cutL_length (by omega) (by omega)]
  have HMS := Lib.hid (fun w' (g : Grew w w') => refMss_c (by rw [hlo]; have := HMB.out; omega) (HOB.grew g))
  rw [h5] at HMS
  clear HOB hlo
  clear hb hn h2 h3 h5
  generalize hoSG xs = N at *
  generalize xs.getD 12 0 = y12 at *
  go_enter Try.func11, Try.ntmps11
  go_upto_region 1 with fail
  have hR : Blk (w.alloc (.cells #[.int .i64 0, .int .i64 0, .int .u32 0, .int .u32 0, .int .i64 0, .int .i64 0, .int .i64 0, .slice none 0 0] 25)) w.heap.size #[.int .i64 0, .int .i64 0, .int .u32 0, .int .u32 0, .int .i64 0, .int .i64 0, .int .i64 0, .slice none 0 0] 25 := Blk.new _ _ _ _ rfl
  have G : Grew w (w.alloc (.cells #[.int .i64 0, .int .i64 0, .int .u32 0, .int .u32 0, .int .i64 0, .int .i64 0, .int .i64 0, .slice none 0 0] 25)) := (Grew.refl _).alloc _
  generalize (w.alloc (.cells #[.int .i64 0, .int .i64 0, .int .u32 0, .int .u32 0, .int .i64 0, .int .i64 0, .int .i64 0, .slice none 0 0] 25)) = w0 at *
  generalize hlR : w.heap.size = R at *
  have x12 : w0.cell? ⟨bk, off + 12, none⟩ = some (.int .u8 y12) := by rw [(gcell G).1 bk _ (by rw [hlR]; exact HBL.out)]; exact HC12.out
  go_wp2_with fail
  refine (refPseudo_c src dst 6 (n : Nat) hsr hdr (by omega) (by omega) w0).mono ?_
  rintro e wp ⟨u1, rfl, rp, bp, gp⟩
  have HP := Lib.hid rp
  have HBP := Lib.hid (HB.out.grew (G.trans gp))
  clear rp bp x12
  go_upto_region 10 with (first
    | (refine wpList_append_b (W := w0) rfl (.tmp 39) (.tmp 40) rfl gp HP.out HBP.out (by rfl) (by rfl) HL9.out ?_; intro vz wz RZ gz xz; clear xz)
    | (go_at_call 34; refine (refRight_c _ (RZ.out.buf HO9.out) (by rw [List.length_append]; exact HL9.out)).mono ?_; rintro e w3 ⟨rfl, g3⟩; rw [show decide (sumV (pseudoV src dst 6 ((n : Nat) : Int) ++ xs) = 0) = true from HSM.out]))
  have G3 := G.trans (gz.trans g3)
  have hR3 := hR.grew (gz.trans g3)
  clear HP HBP gp RZ gz g3 hR
  go_wp2_with fail
  refine (HMS.out _ G3).mono ?_
  rintro e wm ⟨rfl, hm9⟩
  obtain rfl := hm9.symm
  have y0 := hR3.cell 0
  have y1 := hR3.cell 1
  have y2 := hR3.cell 2
  have y3 := hR3.cell 3
  have y4 := hR3.cell 4
  have y5 := hR3.cell 5
  have y6 := hR3.cell 6
  have y7 := hR3.cell 7
  have f0 := hR3.free 0
  have f1 := hR3.free 1
  have f2 := hR3.free 2
  have f3 := hR3.free 3
  have f4 := hR3.free 4
  have f5 := hR3.free 5
  have f6 := hR3.free 6
  have f7 := hR3.free 7
  go_wp2_with fail
  have E := ((((((((hR3.set (o := 0) (.int .i64 0)).set (o := 1) (.int .i64 0)).set (o := 2) (.int .u32 0)).set (o := 3) (.int .u32 0)).set (o := 4) (.int .i64 0)).set (o := 5) (.int .i64 0)).set (o := 6) (.int .i64 0)).set (o := 7) (.slice none 0 0))
  have GE := ((((((((G3.setCell (b := R) (o := 0) (by omega) (.int .i64 0)).setCell (b := R) (o := 1) (by omega) (.int .i64 0)).setCell (b := R) (o := 2) (by omega) (.int .u32 0)).setCell (b := R) (o := 3) (by omega) (.int .u32 0)).setCell (b := R) (o := 4) (by omega) (.int .i64 0)).setCell (b := R) (o := 5) (by omega) (.int .i64 0)).setCell (b := R) (o := 6) (by omega) (.int .i64 0)).setCell (b := R) (o := 7) (by omega) (.slice none 0 0))
  have z0 := E.cell 0
  have z1 := E.cell 1
  have z2 := E.cell 2
  have z3 := E.cell 3
  have z4 := E.cell 4
  have z5 := E.cell 5
  have z6 := E.cell 6
  have z7 := E.cell 7
  exact bodyPost_ret (v := .tuple #[.agg #[.int .i64 0, .int .i64 0, .int .u32 0, .int .u32 0, .int .i64 0, .int .i64 0, .int .i64 0, .slice none 0 0], .int .i64 161]) (by simp [results, Try.results11, go_sem, z0, z1, z2, z3, z4, z5, z6, z7]) rfl ⟨_, rfl, Sg.zero _, GE⟩
/-- What the operations of a region give. -/
def rgSg (W : World) (bk off n c : Nat) (a0 : Option Addr) (c0 : Nat) (a1 : Option Addr) (c1 : Nat) (a2 : Option Addr) (c2 : Nat) (a3 : Option Addr) (c3 : Nat) (a5 : Option Addr) (c5 : Nat) (g0 g1' g2 g3' t13 g5' ms : Int) : (Nat → Value) → Nat → Value → World → Prop
  | _, 0, v, _ => v = .slice (some ⟨bk, off, none⟩) n c
  | _, 1, v, _ => v = .slice a0 2 c0
  | _, 2, v, _ => v = .int .u64 g0
  | _, 3, v, _ => v = .int .i64 g0
  | _, 4, v, _ => v = .slice (some ⟨bk, off, none⟩) n c
  | _, 5, v, _ => v = .slice a1 2 c1
  | _, 6, v, _ => v = .int .u64 g1'
  | _, 7, v, _ => v = .int .i64 g1'
  | _, 8, v, _ => v = .slice (some ⟨bk, off, none⟩) n c
  | _, 9, v, _ => v = .slice a2 4 c2
  | _, 10, v, _ => v = .int .u64 g2
  | _, 11, v, _ => v = .int .u32 g2
  | _, 12, v, _ => v = .slice (some ⟨bk, off, none⟩) n c
  | _, 13, v, _ => v = .slice a3 4 c3
  | _, 14, v, _ => v = .int .u64 g3'
  | _, 15, v, _ => v = .int .u32 g3'
  | _, 16, v, _ => v = .slice (some ⟨bk, off, none⟩) n c
  | _, 17, v, _ => v = .pointer (some ⟨bk, off + 13, none⟩)
  | _, 18, v, _ => v = .int .u8 t13
  | _, 19, v, _ => v = .int .u8 (t13 % 64)
  | _, 20, v, _ => v = .int .i64 (t13 % 64)
  | _, 21, v, _ => v = .slice (some ⟨bk, off, none⟩) n c
  | _, 22, v, _ => v = .slice a5 2 c5
  | _, 23, v, _ => v = .int .u64 g5'
  | _, 24, v, _ => v = .int .i64 g5'
  | _, 25, v, _ => v = .int .i64 ms
  | _, 26, v, _ => v = .agg #[.int .i64 g0, .int .i64 g1', .int .u32 g2, .int .u32 g3', .int .i64 (t13 % 64), .int .i64 g5', .int .i64 ms, .slice none 0 0]
  | _, 27, v, w => ∃ b0, v = .pointer (some ⟨b0, 0, none⟩) ∧ W.heap.size ≤ b0 ∧ Blk w b0 #[.int .i64 0, .int .i64 0, .int .u32 0, .int .u32 0, .int .i64 0, .int .i64 0, .int .i64 0, .slice none 0 0] 25
  | _, _, _, _ => True
theorem rgSg_grew {W : World} {bk off n c : Nat} {a0 : Option Addr} {c0 : Nat} {a1 : Option Addr} {c1 : Nat} {a2 : Option Addr} {c2 : Nat} {a3 : Option Addr} {c3 : Nat} {a5 : Option Addr} {c5 : Nat} {g0 g1' g2 g3' t13 g5' ms : Int} : ∀ vs j v w w', Grew w w' → rgSg W bk off n c a0 c0 a1 c1 a2 c2 a3 c3 a5 c5 g0 g1' g2 g3' t13 g5' ms vs j v w → rgSg W bk off n c a0 c0 a1 c1 a2 c2 a3 c3 a5 c5 g0 g1' g2 g3' t13 g5' ms vs j v w'
  | _, 0, _, _, _, _, h => h
  | _, 1, _, _, _, _, h => h
  | _, 2, _, _, _, _, h => h
  | _, 3, _, _, _, _, h => h
  | _, 4, _, _, _, _, h => h
  | _, 5, _, _, _, _, h => h
  | _, 6, _, _, _, _, h => h
  | _, 7, _, _, _, _, h => h
  | _, 8, _, _, _, _, h => h
  | _, 9, _, _, _, _, h => h
  | _, 10, _, _, _, _, h => h
  | _, 11, _, _, _, _, h => h
  | _, 12, _, _, _, _, h => h
  | _, 13, _, _, _, _, h => h
  | _, 14, _, _, _, _, h => h
  | _, 15, _, _, _, _, h => h
  | _, 16, _, _, _, _, h => h
  | _, 17, _, _, _, _, h => h
  | _, 18, _, _, _, _, h => h
  | _, 19, _, _, _, _, h => h
  | _, 20, _, _, _, _, h => h
  | _, 21, _, _, _, _, h => h
  | _, 22, _, _, _, _, h => h
  | _, 23, _, _, _, _, h => h
  | _, 24, _, _, _, _, h => h
  | _, 25, _, _, _, _, h => h
  | _, 26, _, _, _, _, h => h
  | _, 27, _, _, _, g, ⟨b0, e, h0, h1⟩ => ⟨b0, e, h0, h1.grew g⟩
  | _, _ + 28, _, _, _, _, _ => True.intro
theorem rgSg_lt {W : World} {bk off n c : Nat} {a0 : Option Addr} {c0 : Nat} {a1 : Option Addr} {c1 : Nat} {a2 : Option Addr} {c2 : Nat} {a3 : Option Addr} {c3 : Nat} {a5 : Option Addr} {c5 : Nat} {g0 g1' g2 g3' t13 g5' ms : Int} : ∀ vs j v w, ([27] : List Nat).contains j = true → rgSg W bk off n c a0 c0 a1 c1 a2 c2 a3 c3 a5 c5 g0 g1' g2 g3' t13 g5' ms vs j v w → ∀ g, leadsTo v = some g → g < w.heap.size
  | _, 0, _, _, hc, _ => by simp at hc
  | _, 1, _, _, hc, _ => by simp at hc
  | _, 2, _, _, hc, _ => by simp at hc
  | _, 3, _, _, hc, _ => by simp at hc
  | _, 4, _, _, hc, _ => by simp at hc
  | _, 5, _, _, hc, _ => by simp at hc
  | _, 6, _, _, hc, _ => by simp at hc
  | _, 7, _, _, hc, _ => by simp at hc
  | _, 8, _, _, hc, _ => by simp at hc
  | _, 9, _, _, hc, _ => by simp at hc
  | _, 10, _, _, hc, _ => by simp at hc
  | _, 11, _, _, hc, _ => by simp at hc
  | _, 12, _, _, hc, _ => by simp at hc
  | _, 13, _, _, hc, _ => by simp at hc
  | _, 14, _, _, hc, _ => by simp at hc
  | _, 15, _, _, hc, _ => by simp at hc
  | _, 16, _, _, hc, _ => by simp at hc
  | _, 17, _, _, hc, _ => by simp at hc
  | _, 18, _, _, hc, _ => by simp at hc
  | _, 19, _, _, hc, _ => by simp at hc
  | _, 20, _, _, hc, _ => by simp at hc
  | _, 21, _, _, hc, _ => by simp at hc
  | _, 22, _, _, hc, _ => by simp at hc
  | _, 23, _, _, hc, _ => by simp at hc
  | _, 24, _, _, hc, _ => by simp at hc
  | _, 25, _, _, hc, _ => by simp at hc
  | _, 26, _, _, hc, _ => by simp at hc
  | _, 27, _, w, _, ⟨b0, e, h0, h1⟩ => by subst e; intro g hg; simp only [leadsTo, Option.some.injEq] at hg; subst hg; exact h1.lt
  | _, _ + 28, _, _, hc, _ => by simp at hc
theorem rgSg_loc {W : World} {bk off n c : Nat} {a0 : Option Addr} {c0 : Nat} {a1 : Option Addr} {c1 : Nat} {a2 : Option Addr} {c2 : Nat} {a3 : Option Addr} {c3 : Nat} {a5 : Option Addr} {c5 : Nat} {g0 g1' g2 g3' t13 g5' ms : Int} : ∀ (vs vs' : Nat → Value) j v w, (∀ k ∈ ([[], [], [], [], [], [], [], [], [], [], [], [], [], [], [], [], [], [], [], [], [], [], [], [], [], [], [], []] : List (List Nat)).getD j [], vs k = vs' k) → rgSg W bk off n c a0 c0 a1 c1 a2 c2 a3 c3 a5 c5 g0 g1' g2 g3' t13 g5' ms vs j v w → rgSg W bk off n c a0 c0 a1 c1 a2 c2 a3 c3 a5 c5 g0 g1' g2 g3' t13 g5' ms vs' j v w
  | _, _, 0, _, _, _, h => h
  | _, _, 1, _, _, _, h => h
  | _, _, 2, _, _, _, h => h
  | _, _, 3, _, _, _, h => h
  | _, _, 4, _, _, _, h => h
  | _, _, 5, _, _, _, h => h
  | _, _, 6, _, _, _, h => h
  | _, _, 7, _, _, _, h => h
  | _, _, 8, _, _, _, h => h
  | _, _, 9, _, _, _, h => h
  | _, _, 10, _, _, _, h => h
  | _, _, 11, _, _, _, h => h
  | _, _, 12, _, _, _, h => h
  | _, _, 13, _, _, _, h => h
  | _, _, 14, _, _, _, h => h
  | _, _, 15, _, _, _, h => h
  | _, _, 16, _, _, _, h => h
  | _, _, 17, _, _, _, h => h
  | _, _, 18, _, _, _, h => h
  | _, _, 19, _, _, _, h => h
  | _, _, 20, _, _, _, h => h
  | _, _, 21, _, _, _, h => h
  | _, _, 22, _, _, _, h => h
  | _, _, 23, _, _, _, h => h
  | _, _, 24, _, _, _, h => h
  | _, _, 25, _, _, _, h => h
  | _, _, 26, _, _, _, h => h
  | _, _, 27, _, _, _, h => h
  | _, _, _ + 28, _, _, _, _ => True.intro
set_option maxHeartbeats 8000000 in
theorem refGetS_6 (a : Option Addr) (n c : Nat) (xs : List Int) (src dst : Int) (hsr : 0 ≤ src ∧ src < 4294967296) (hdr : 0 ≤ dst ∧ dst < 4294967296) (hs : ¬ ((n : Int) < 20)) {w : World} (hb : Buf w (.slice a n c) xs) (h1 : ¬ ((65535 : Int) < (n : Nat))) (h2 : ¬ hoSG xs < 20) (h3 : ¬ xs.length < hoSG xs) (h4 : sumV (psSG src dst xs.length ++ xs) = 0) (h5 : (mssV (cutL xs 20 (hoSG xs))).2 = true) :
    Calls Try.prog 11 #[.slice a n c, .int .u32 src, .int .u32 dst] w fun e w' => ∃ u, e = .returned (.tuple #[u, .int .i64 0]) ∧ Sg w' u (sgOf xs) ∧ Grew w w' := by
  have hn := hb.lenEq.1
  have hne : xs ≠ [] := by rintro rfl; simp at hn; omega
  obtain ⟨_, _, ea, _, hat⟩ := hb.shape
  simp only [Value.slice.injEq] at ea
  obtain ⟨rfl, hn', rfl⟩ := ea
  clear hn'
  obtain ⟨bk, off, rfl, hat2⟩ := hat hne
  have HBL := Lib.hid (hat2.lt hne)
  have hx12 := hb.ok.getD 12
  have hM : xs.getD 12 0 / 16 * 4 = ((hoSG xs : Nat) : Int) := by unfold hoSG; omega
  have HC12 : Hid (w.cell? ⟨bk, off + 12, none⟩ = some (.int .u8 (xs.getD 12 0))) := Lib.hid (hat2 12 (by omega))
  have HMB := Lib.hid (show hoSG xs ≤ 60 by unfold hoSG; omega)
  have EW0 : (xs.getD 12 0).tdiv 16 % 256 = xs.getD 12 0 / 16 := by rw [Int.tdiv_eq_ediv_of_nonneg (by omega)]; omega
  have EW1 : IntKind.i64.wrap (xs.getD 12 0 / 16) = xs.getD 12 0 / 16 := IntWalk.i64_in _ (by omega)
  have EW2 : xs.getD 12 0 / 16 * 4 = ((hoSG xs : Nat) : Int) := hM
  have EW3 : wrap64 ((hoSG xs : Nat) : Int) = ((hoSG xs : Nat) : Int) := IntWalk.wrap64_in _ (by have := HMB.out; omega)
  have HAT := Lib.hid hat2
  have HB := Lib.hid hb
  have k12 : (12 : Int) < (n : Nat) := by omega
  clear hat hat2 hne hM
  have k2 : ¬ (((hoSG xs : Nat) : Int) < 20) := by omega
  have k3 : ¬ (((n : Nat) : Int) < ((hoSG xs : Nat) : Int)) := by omega
  have HNN := Lib.hid hn
  have HSM := Lib.hid (show decide (sumV (psSG src dst n ++ xs) = 0) = true by rw [hn]; exact decide_eq_true h4)
  have HL9 := Lib.hid (show (psSG src dst n).length + xs.length ≤ 140737488355328 by rw [psSG_len]; omega)
  have HO9 := Lib.hid ((psSG_ok src dst n).append hb.ok)
  clear h4
  have h20 : 20 ≤ hoSG xs := by omega
  obtain ⟨ao, co, HOB, z1, hrun, z3, z4⟩ := hb.run_cut (lo := 20) (hi := hoSG xs) (by omega) (by omega)
  have r20 : ∀ w', (Instr.sliceAt 23 (.slice (some ⟨bk, off, none⟩) n c) (some (.int .i64 20)) (some (.int .i64 ((hoSG xs : Nat) : Int))) none).run Try.prog w' = .ok (.slice ao (hoSG xs - 20) co) w' := hrun .i64 .i64
  clear z1 z3 z4 hrun
  have hlo : (cutL xs 20 (hoSG xs)).length = hoSG xs - 20 := by rw [cutL_length (by omega) (by omega)]
  have HMS := Lib.hid (fun w' (g : Grew w w') => refMss_c (by rw [hlo]; have := HMB.out; omega) (HOB.grew g))
  rw [h5] at HMS
  clear HOB hlo
  obtain ⟨a0, c0, H0, x1, x2, x3, x4⟩ := HB.out.run_cut (lo := 0) (hi := 2) (by omega) (by omega)
  have r0 : ∀ w', (Instr.sliceAt 23 (.slice (some ⟨bk, off, none⟩) n c) none (some (.int .i64 2)) none).run Try.prog w' = .ok (.slice a0 2 c0) w' := x3 rfl .i64
  have HG0 := Lib.hid (fun w' (g : Grew w w') => refGet19s_c (by rw [cutL_length (by omega) (by omega)]; omega) (H0.grew g))
  have hg0 := getG_lt (HB.out.ok.cut 0 2) true (n := 2) (cutL_length (by omega) (by omega)) (by omega)
  clear x1 x2 x3 x4 H0
  obtain ⟨a1, c1, H1, x1, x2, x3, x4⟩ := HB.out.run_cut (lo := 2) (hi := 4) (by omega) (by omega)
  have r1 : ∀ w', (Instr.sliceAt 23 (.slice (some ⟨bk, off, none⟩) n c) (some (.int .i64 2)) (some (.int .i64 4)) none).run Try.prog w' = .ok (.slice a1 2 c1) w' := x2 .i64 .i64
  have HG1 := Lib.hid (fun w' (g : Grew w w') => refGet19s_c (by rw [cutL_length (by omega) (by omega)]; omega) (H1.grew g))
  have hg1 := getG_lt (HB.out.ok.cut 2 4) true (n := 2) (cutL_length (by omega) (by omega)) (by omega)
  clear x1 x2 x3 x4 H1
  obtain ⟨a2, c2, H2, x1, x2, x3, x4⟩ := HB.out.run_cut (lo := 4) (hi := 8) (by omega) (by omega)
  have r2 : ∀ w', (Instr.sliceAt 23 (.slice (some ⟨bk, off, none⟩) n c) (some (.int .i64 4)) (some (.int .i64 8)) none).run Try.prog w' = .ok (.slice a2 4 c2) w' := x2 .i64 .i64
  have HG2 := Lib.hid (fun w' (g : Grew w w') => refGet19s_c (by rw [cutL_length (by omega) (by omega)]; omega) (H2.grew g))
  have hg2 := getG_lt (HB.out.ok.cut 4 8) true (n := 4) (cutL_length (by omega) (by omega)) (by omega)
  clear x1 x2 x3 x4 H2
  obtain ⟨a3, c3, H3, x1, x2, x3, x4⟩ := HB.out.run_cut (lo := 8) (hi := 12) (by omega) (by omega)
  have r3 : ∀ w', (Instr.sliceAt 23 (.slice (some ⟨bk, off, none⟩) n c) (some (.int .i64 8)) (some (.int .i64 12)) none).run Try.prog w' = .ok (.slice a3 4 c3) w' := x2 .i64 .i64
  have HG3 := Lib.hid (fun w' (g : Grew w w') => refGet19s_c (by rw [cutL_length (by omega) (by omega)]; omega) (H3.grew g))
  have hg3 := getG_lt (HB.out.ok.cut 8 12) true (n := 4) (cutL_length (by omega) (by omega)) (by omega)
  clear x1 x2 x3 x4 H3
  obtain ⟨a5, c5, H5, x1, x2, x3, x4⟩ := HB.out.run_cut (lo := 14) (hi := 16) (by omega) (by omega)
  have r5 : ∀ w', (Instr.sliceAt 23 (.slice (some ⟨bk, off, none⟩) n c) (some (.int .i64 14)) (some (.int .i64 16)) none).run Try.prog w' = .ok (.slice a5 2 c5) w' := x2 .i64 .i64
  have HG5 := Lib.hid (fun w' (g : Grew w w') => refGet19s_c (by rw [cutL_length (by omega) (by omega)]; omega) (H5.grew g))
  have hg5 := getG_lt (HB.out.ok.cut 14 16) true (n := 2) (cutL_length (by omega) (by omega)) (by omega)
  clear x1 x2 x3 x4 H5
  have p2 : (2 : Int) ^ (8 * 2) = 65536 := by decide
  have p4 : (2 : Int) ^ (8 * 4) = 4294967296 := by decide
  rw [p2] at hg0 hg1 hg5
  rw [p4] at hg2 hg3
  have HC13 : Hid (w.cell? ⟨bk, off + 13, none⟩ = some (.int .u8 (xs.getD 13 0))) := Lib.hid (HAT.out 13 (by omega))
  have ht13 := hb.ok.getD 13
  obtain ⟨aN, cN, HNB, z1, z2, z3, z4⟩ := hb.run_cut (lo := hoSG xs) (hi := xs.length) (by omega) (by omega)
  have rN : ∀ w', (Instr.sliceAt 23 (.slice (some ⟨bk, off, none⟩) n c) (some (.int .i64 ((hoSG xs : Nat) : Int))) none none).run Try.prog w' = .ok (.slice aN (xs.length - hoSG xs) cN) w' := fun w' => z4 rfl .i64 w'
  clear z1 z2 z3 z4
  have HNB := Lib.hid HNB
  have HLN : Hid (([] : List Int).length + (cutL xs (hoSG xs) xs.length).length ≤ 140737488355328) := Lib.hid (by rw [cutL_length (by omega) (by omega)]; simp; omega)
  have HON := Lib.hid (hb.ok.cut (hoSG xs) xs.length)
  have HF : Hid (sgOf xs = ⟨getV (cutL xs 0 2) true, getV (cutL xs 2 4) true, getV (cutL xs 4 8) true, getV (cutL xs 8 12) true, xs.getD 13 0 % 64, getV (cutL xs 14 16) true, (mssV (cutL xs 20 (hoSG xs))).1, cutL xs (hoSG xs) xs.length⟩) := Lib.hid rfl
  have hms : Hid (intI (mssV (cutL xs 20 (hoSG xs))).1) := Lib.hid (by have := mssV_lt (hb.ok.cut 20 (hoSG xs)); unfold intI; omega)
  generalize (mssV (cutL xs 20 (hoSG xs))).1 = ms at *
  generalize cutL xs (hoSG xs) xs.length = ys at *
  generalize xs.length - hoSG xs = nN at *
  generalize getV (cutL xs 0 2) true = g0 at *
  generalize getV (cutL xs 2 4) true = g1' at *
  generalize getV (cutL xs 4 8) true = g2 at *
  generalize getV (cutL xs 8 12) true = g3' at *
  generalize getV (cutL xs 14 16) true = g5' at *
  generalize xs.getD 13 0 = t13 at *
  have EG0 := Lib.hid (show IntKind.i64.wrap g0 = g0 from IntWalk.i64_in _ (by omega))
  have EG1 := Lib.hid (show IntKind.i64.wrap g1' = g1' from IntWalk.i64_in _ (by omega))
  have EG2 := Lib.hid (show IntKind.u32.wrap g2 = g2 by rw [IntKind.wrap_u32]; omega)
  have EG3 := Lib.hid (show IntKind.u32.wrap g3' = g3' by rw [IntKind.wrap_u32]; omega)
  have EG5 := Lib.hid (show IntKind.i64.wrap g5' = g5' from IntWalk.i64_in _ (by omega))
  have ET13 := Lib.hid (show IntKind.i64.wrap (t13 % 64) = t13 % 64 from IntWalk.i64_in _ (by omega))
  have K13 := Lib.hid (show (13 : Int) < (n : Nat) by omega)
  have K13b := Lib.hid (show 0 ≤ t13 ∧ t13.tmod 64 = t13 % 64 ∧ IntKind.u8.wrap (t13 % 64) = t13 % 64 by refine ⟨by omega, Int.tmod_eq_emod_of_nonneg (by omega), ?_⟩; rw [wrap_u8]; omega)
  have HI : Hid ((intI g0 ∧ intI g1' ∧ u32I g2 ∧ u32I g3') ∧ (intI (t13 % 64) ∧ intI g5')) := Lib.hid (by unfold intI u32I; omega)
  clear p2 p4 hg0 hg1 hg2 hg3 hg5 ht13 HAT
  clear hb hn h2 h3 h5
  generalize hoSG xs = N at *
  generalize xs.getD 12 0 = y12 at *
  go_enter Try.func11, Try.ntmps11
  go_upto_region 1 with fail
  have hR : Blk (w.alloc (.cells #[.int .i64 0, .int .i64 0, .int .u32 0, .int .u32 0, .int .i64 0, .int .i64 0, .int .i64 0, .slice none 0 0] 25)) w.heap.size #[.int .i64 0, .int .i64 0, .int .u32 0, .int .u32 0, .int .i64 0, .int .i64 0, .int .i64 0, .slice none 0 0] 25 := Blk.new _ _ _ _ rfl
  have G : Grew w (w.alloc (.cells #[.int .i64 0, .int .i64 0, .int .u32 0, .int .u32 0, .int .i64 0, .int .i64 0, .int .i64 0, .slice none 0 0] 25)) := (Grew.refl _).alloc _
  generalize (w.alloc (.cells #[.int .i64 0, .int .i64 0, .int .u32 0, .int .u32 0, .int .i64 0, .int .i64 0, .int .i64 0, .slice none 0 0] 25)) = w0 at *
  generalize hlR : w.heap.size = R at *
  have x12 : w0.cell? ⟨bk, off + 12, none⟩ = some (.int .u8 y12) := by rw [(gcell G).1 bk _ (by rw [hlR]; exact HBL.out)]; exact HC12.out
  go_wp2_with fail
  refine (refPseudo_c src dst 6 (n : Nat) hsr hdr (by omega) (by omega) w0).mono ?_
  rintro e wp ⟨u1, rfl, rp, bp, gp⟩
  have HP := Lib.hid rp
  have HBP := Lib.hid (HB.out.grew (G.trans gp))
  clear rp bp x12
  go_upto_region 10 with (first
    | (refine wpList_append_b (W := w0) rfl (.tmp 39) (.tmp 40) rfl gp HP.out HBP.out (by rfl) (by rfl) HL9.out ?_; intro vz wz RZ gz xz; clear xz)
    | (go_at_call 34; refine (refRight_c _ (RZ.out.buf HO9.out) (by rw [List.length_append]; exact HL9.out)).mono ?_; rintro e w3 ⟨rfl, g3⟩; rw [show decide (sumV (pseudoV src dst 6 ((n : Nat) : Int) ++ xs) = 0) = true from HSM.out]))
  have G3 := G.trans (gz.trans g3)
  have hR3 := hR.grew (gz.trans g3)
  clear HP HBP gp RZ gz g3 hR
  go_wp2_with fail
  refine (HMS.out _ G3).mono ?_
  rintro e wm ⟨rfl, hm9⟩
  obtain rfl := hm9.symm
  go_upto_region 13 with fail
  clear G EW0 EW1 EW2 EW3 k2 k3 k12
  refine region_deps 28 [some 55, some 56, some 57, some 58, some 59, some 60, some 61, some 62, some 63, some 64, some 65, some 66, some 67, some 68, some 69, some 70, some 71, some 72, some 73, some 74, some 75, some 76, some 77, some 78, some 79, some 80, some 81, some 11] [[], [], [], [], [], [], [], [], [], [], [], [], [], [], [], [], [], [], [], [], [], [], [], [], [], [], [], []] [27] (rgSg w3 bk off n c a0 c0 a1 c1 a2 c2 a3 c3 a5 c5 g0 g1' g2 g3' t13 g5' ms) rgSg_grew rgSg_lt rgSg_loc (Grew.refl w3) (by kernel_rfl) (by kernel_rfl) ?_ ?_
  · simp only [List.take_succ_cons, List.take_zero]
    refine GivesAll.cons (fun vs w1 g1 hd K hK => ?_) ?_
    · simp only [putsT, Nat.zero_add, Nat.reduceAdd, List.getD_cons_zero, List.getD_cons_succ, Act.put, List.setIfInBounds_toArray, List.set_cons_zero, List.set_cons_succ] at hK ⊢
      go_simp
      exact hK _ _ (Grew.refl _) rfl (fun h => by simp at h)
    refine GivesAll.cons (fun vs w1 g1 hd K hK => ?_) ?_
    · have e0 : vs 0 = .slice (some ⟨bk, off, none⟩) n c := hd 0 (by kernel_rfl)
      simp only [putsT, Nat.zero_add, Nat.reduceAdd, List.getD_cons_zero, List.getD_cons_succ, Act.put, List.setIfInBounds_toArray, List.set_cons_zero, List.set_cons_succ, e0] at hK ⊢
      go_simp
      exact hK _ _ (Grew.refl _) rfl (fun h => by simp at h)
    refine GivesAll.cons (fun vs w1 g1 hd K hK => ?_) ?_
    · have e1 : vs 1 = .slice a0 2 c0 := hd 1 (by kernel_rfl)
      simp only [putsT, Nat.zero_add, Nat.reduceAdd, List.getD_cons_zero, List.getD_cons_succ, Act.put, List.setIfInBounds_toArray, List.set_cons_zero, List.set_cons_succ, e1] at hK ⊢
      go_simp
      refine Calls.mono (HG0.out w1 (G3.trans g1)) ?_
      rintro e w5 ⟨rfl, g5⟩
      exact hK _ _ g5 rfl (fun h => by simp at h)
    refine GivesAll.cons (fun vs w1 g1 hd K hK => ?_) ?_
    · have e2 : vs 2 = .int .u64 g0 := hd 2 (by kernel_rfl)
      simp only [putsT, Nat.zero_add, Nat.reduceAdd, List.getD_cons_zero, List.getD_cons_succ, Act.put, List.setIfInBounds_toArray, List.set_cons_zero, List.set_cons_succ, e2] at hK ⊢
      have ew := EG0.out
      go_simp
      exact hK _ _ (Grew.refl _) rfl (fun h => by simp at h)
    refine GivesAll.cons (fun vs w1 g1 hd K hK => ?_) ?_
    · simp only [putsT, Nat.zero_add, Nat.reduceAdd, List.getD_cons_zero, List.getD_cons_succ, Act.put, List.setIfInBounds_toArray, List.set_cons_zero, List.set_cons_succ] at hK ⊢
      go_simp
      exact hK _ _ (Grew.refl _) rfl (fun h => by simp at h)
    refine GivesAll.cons (fun vs w1 g1 hd K hK => ?_) ?_
    · have e4 : vs 4 = .slice (some ⟨bk, off, none⟩) n c := hd 4 (by kernel_rfl)
      simp only [putsT, Nat.zero_add, Nat.reduceAdd, List.getD_cons_zero, List.getD_cons_succ, Act.put, List.setIfInBounds_toArray, List.set_cons_zero, List.set_cons_succ, e4] at hK ⊢
      go_simp
      exact hK _ _ (Grew.refl _) rfl (fun h => by simp at h)
    refine GivesAll.cons (fun vs w1 g1 hd K hK => ?_) ?_
    · have e5 : vs 5 = .slice a1 2 c1 := hd 5 (by kernel_rfl)
      simp only [putsT, Nat.zero_add, Nat.reduceAdd, List.getD_cons_zero, List.getD_cons_succ, Act.put, List.setIfInBounds_toArray, List.set_cons_zero, List.set_cons_succ, e5] at hK ⊢
      go_simp
      refine Calls.mono (HG1.out w1 (G3.trans g1)) ?_
      rintro e w5 ⟨rfl, g5⟩
      exact hK _ _ g5 rfl (fun h => by simp at h)
    refine GivesAll.cons (fun vs w1 g1 hd K hK => ?_) ?_
    · have e6 : vs 6 = .int .u64 g1' := hd 6 (by kernel_rfl)
      simp only [putsT, Nat.zero_add, Nat.reduceAdd, List.getD_cons_zero, List.getD_cons_succ, Act.put, List.setIfInBounds_toArray, List.set_cons_zero, List.set_cons_succ, e6] at hK ⊢
      have ew := EG1.out
      go_simp
      exact hK _ _ (Grew.refl _) rfl (fun h => by simp at h)
    refine GivesAll.cons (fun vs w1 g1 hd K hK => ?_) ?_
    · simp only [putsT, Nat.zero_add, Nat.reduceAdd, List.getD_cons_zero, List.getD_cons_succ, Act.put, List.setIfInBounds_toArray, List.set_cons_zero, List.set_cons_succ] at hK ⊢
      go_simp
      exact hK _ _ (Grew.refl _) rfl (fun h => by simp at h)
    refine GivesAll.cons (fun vs w1 g1 hd K hK => ?_) ?_
    · have e8 : vs 8 = .slice (some ⟨bk, off, none⟩) n c := hd 8 (by kernel_rfl)
      simp only [putsT, Nat.zero_add, Nat.reduceAdd, List.getD_cons_zero, List.getD_cons_succ, Act.put, List.setIfInBounds_toArray, List.set_cons_zero, List.set_cons_succ, e8] at hK ⊢
      go_simp
      exact hK _ _ (Grew.refl _) rfl (fun h => by simp at h)
    refine GivesAll.cons (fun vs w1 g1 hd K hK => ?_) ?_
    · have e9 : vs 9 = .slice a2 4 c2 := hd 9 (by kernel_rfl)
      simp only [putsT, Nat.zero_add, Nat.reduceAdd, List.getD_cons_zero, List.getD_cons_succ, Act.put, List.setIfInBounds_toArray, List.set_cons_zero, List.set_cons_succ, e9] at hK ⊢
      go_simp
      refine Calls.mono (HG2.out w1 (G3.trans g1)) ?_
      rintro e w5 ⟨rfl, g5⟩
      exact hK _ _ g5 rfl (fun h => by simp at h)
    refine GivesAll.cons (fun vs w1 g1 hd K hK => ?_) ?_
    · have e10 : vs 10 = .int .u64 g2 := hd 10 (by kernel_rfl)
      simp only [putsT, Nat.zero_add, Nat.reduceAdd, List.getD_cons_zero, List.getD_cons_succ, Act.put, List.setIfInBounds_toArray, List.set_cons_zero, List.set_cons_succ, e10] at hK ⊢
      have ew := EG2.out
      go_simp
      exact hK _ _ (Grew.refl _) rfl (fun h => by simp at h)
    refine GivesAll.cons (fun vs w1 g1 hd K hK => ?_) ?_
    · simp only [putsT, Nat.zero_add, Nat.reduceAdd, List.getD_cons_zero, List.getD_cons_succ, Act.put, List.setIfInBounds_toArray, List.set_cons_zero, List.set_cons_succ] at hK ⊢
      go_simp
      exact hK _ _ (Grew.refl _) rfl (fun h => by simp at h)
    refine GivesAll.cons (fun vs w1 g1 hd K hK => ?_) ?_
    · have e12 : vs 12 = .slice (some ⟨bk, off, none⟩) n c := hd 12 (by kernel_rfl)
      simp only [putsT, Nat.zero_add, Nat.reduceAdd, List.getD_cons_zero, List.getD_cons_succ, Act.put, List.setIfInBounds_toArray, List.set_cons_zero, List.set_cons_succ, e12] at hK ⊢
      go_simp
      exact hK _ _ (Grew.refl _) rfl (fun h => by simp at h)
    refine GivesAll.cons (fun vs w1 g1 hd K hK => ?_) ?_
    · have e13 : vs 13 = .slice a3 4 c3 := hd 13 (by kernel_rfl)
      simp only [putsT, Nat.zero_add, Nat.reduceAdd, List.getD_cons_zero, List.getD_cons_succ, Act.put, List.setIfInBounds_toArray, List.set_cons_zero, List.set_cons_succ, e13] at hK ⊢
      go_simp
      refine Calls.mono (HG3.out w1 (G3.trans g1)) ?_
      rintro e w5 ⟨rfl, g5⟩
      exact hK _ _ g5 rfl (fun h => by simp at h)
    refine GivesAll.cons (fun vs w1 g1 hd K hK => ?_) ?_
    · have e14 : vs 14 = .int .u64 g3' := hd 14 (by kernel_rfl)
      simp only [putsT, Nat.zero_add, Nat.reduceAdd, List.getD_cons_zero, List.getD_cons_succ, Act.put, List.setIfInBounds_toArray, List.set_cons_zero, List.set_cons_succ, e14] at hK ⊢
      have ew := EG3.out
      go_simp
      exact hK _ _ (Grew.refl _) rfl (fun h => by simp at h)
    refine GivesAll.cons (fun vs w1 g1 hd K hK => ?_) ?_
    · simp only [putsT, Nat.zero_add, Nat.reduceAdd, List.getD_cons_zero, List.getD_cons_succ, Act.put, List.setIfInBounds_toArray, List.set_cons_zero, List.set_cons_succ] at hK ⊢
      go_simp
      exact hK _ _ (Grew.refl _) rfl (fun h => by simp at h)
    refine GivesAll.cons (fun vs w1 g1 hd K hK => ?_) ?_
    · have e16 : vs 16 = .slice (some ⟨bk, off, none⟩) n c := hd 16 (by kernel_rfl)
      simp only [putsT, Nat.zero_add, Nat.reduceAdd, List.getD_cons_zero, List.getD_cons_succ, Act.put, List.setIfInBounds_toArray, List.set_cons_zero, List.set_cons_succ, e16] at hK ⊢
      have hk0 := K13.out
      go_simp
      exact hK _ _ (Grew.refl _) rfl (fun h => by simp at h)
    refine GivesAll.cons (fun vs w1 g1 hd K hK => ?_) ?_
    · have e17 : vs 17 = .pointer (some ⟨bk, off + 13, none⟩) := hd 17 (by kernel_rfl)
      simp only [putsT, Nat.zero_add, Nat.reduceAdd, List.getD_cons_zero, List.getD_cons_succ, Act.put, List.setIfInBounds_toArray, List.set_cons_zero, List.set_cons_succ, e17] at hK ⊢
      have z0 : w1.cell? ⟨bk, off + 13, none⟩ = some (.int .u8 t13) := by rw [(gcell (G3.trans g1)).1 bk _ (by rw [hlR]; exact HBL.out)]; exact HC13.out
      go_simp
      exact hK _ _ (Grew.refl _) rfl (fun h => by simp at h)
    refine GivesAll.cons (fun vs w1 g1 hd K hK => ?_) ?_
    · have e18 : vs 18 = .int .u8 t13 := hd 18 (by kernel_rfl)
      simp only [putsT, Nat.zero_add, Nat.reduceAdd, List.getD_cons_zero, List.getD_cons_succ, Act.put, List.setIfInBounds_toArray, List.set_cons_zero, List.set_cons_succ, e18] at hK ⊢
      have hk13 := K13b.out
      go_simp
      exact hK _ _ (Grew.refl _) rfl (fun h => by simp at h)
    refine GivesAll.cons (fun vs w1 g1 hd K hK => ?_) ?_
    · have e19 : vs 19 = .int .u8 (t13 % 64) := hd 19 (by kernel_rfl)
      simp only [putsT, Nat.zero_add, Nat.reduceAdd, List.getD_cons_zero, List.getD_cons_succ, Act.put, List.setIfInBounds_toArray, List.set_cons_zero, List.set_cons_succ, e19] at hK ⊢
      have ew := ET13.out
      go_simp
      exact hK _ _ (Grew.refl _) rfl (fun h => by simp at h)
    refine GivesAll.cons (fun vs w1 g1 hd K hK => ?_) ?_
    · simp only [putsT, Nat.zero_add, Nat.reduceAdd, List.getD_cons_zero, List.getD_cons_succ, Act.put, List.setIfInBounds_toArray, List.set_cons_zero, List.set_cons_succ] at hK ⊢
      go_simp
      exact hK _ _ (Grew.refl _) rfl (fun h => by simp at h)
    refine GivesAll.cons (fun vs w1 g1 hd K hK => ?_) ?_
    · have e21 : vs 21 = .slice (some ⟨bk, off, none⟩) n c := hd 21 (by kernel_rfl)
      simp only [putsT, Nat.zero_add, Nat.reduceAdd, List.getD_cons_zero, List.getD_cons_succ, Act.put, List.setIfInBounds_toArray, List.set_cons_zero, List.set_cons_succ, e21] at hK ⊢
      go_simp
      exact hK _ _ (Grew.refl _) rfl (fun h => by simp at h)
    refine GivesAll.cons (fun vs w1 g1 hd K hK => ?_) ?_
    · have e22 : vs 22 = .slice a5 2 c5 := hd 22 (by kernel_rfl)
      simp only [putsT, Nat.zero_add, Nat.reduceAdd, List.getD_cons_zero, List.getD_cons_succ, Act.put, List.setIfInBounds_toArray, List.set_cons_zero, List.set_cons_succ, e22] at hK ⊢
      go_simp
      refine Calls.mono (HG5.out w1 (G3.trans g1)) ?_
      rintro e w5 ⟨rfl, g5⟩
      exact hK _ _ g5 rfl (fun h => by simp at h)
    refine GivesAll.cons (fun vs w1 g1 hd K hK => ?_) ?_
    · have e23 : vs 23 = .int .u64 g5' := hd 23 (by kernel_rfl)
      simp only [putsT, Nat.zero_add, Nat.reduceAdd, List.getD_cons_zero, List.getD_cons_succ, Act.put, List.setIfInBounds_toArray, List.set_cons_zero, List.set_cons_succ, e23] at hK ⊢
      have ew := EG5.out
      go_simp
      exact hK _ _ (Grew.refl _) rfl (fun h => by simp at h)
    refine GivesAll.cons (fun vs w1 g1 hd K hK => ?_) ?_
    · simp only [putsT, Nat.zero_add, Nat.reduceAdd, List.getD_cons_zero, List.getD_cons_succ, Act.put, List.setIfInBounds_toArray, List.set_cons_zero, List.set_cons_succ] at hK ⊢
      go_simp
      exact hK _ _ (Grew.refl _) rfl (fun h => by simp at h)
    refine GivesAll.cons (fun vs w1 g1 hd K hK => ?_) ?_
    · have e3 : vs 3 = .int .i64 g0 := hd 3 (by kernel_rfl)
      have e7 : vs 7 = .int .i64 g1' := hd 7 (by kernel_rfl)
      have e11 : vs 11 = .int .u32 g2 := hd 11 (by kernel_rfl)
      have e15 : vs 15 = .int .u32 g3' := hd 15 (by kernel_rfl)
      have e20 : vs 20 = .int .i64 (t13 % 64) := hd 20 (by kernel_rfl)
      have e24 : vs 24 = .int .i64 g5' := hd 24 (by kernel_rfl)
      have e25 : vs 25 = .int .i64 ms := hd 25 (by kernel_rfl)
      simp only [putsT, Nat.zero_add, Nat.reduceAdd, List.getD_cons_zero, List.getD_cons_succ, Act.put, List.setIfInBounds_toArray, List.set_cons_zero, List.set_cons_succ, e3, e7, e11, e15, e20, e24, e25] at hK ⊢
      go_simp
      exact hK _ _ (Grew.refl _) rfl (fun h => by simp at h)
    refine GivesAll.cons (fun vs w1 g1 hd K hK => ?_) ?_
    · simp only [putsT, Nat.zero_add, Nat.reduceAdd, List.getD_cons_zero, List.getD_cons_succ, Act.put, List.setIfInBounds_toArray, List.set_cons_zero, List.set_cons_succ] at hK ⊢
      go_simp
      exact hK _ _ ((Grew.refl _).alloc _) ⟨_, rfl, g1.size, Blk.new _ _ _ _ rfl⟩ (fun _ g hg => by simp only [leadsTo, Option.some.injEq] at hg; subst hg; exact Nat.le_refl _)
    exact GivesAll.nil
  intro vs wz gz hv hap
  have e0 : vs 0 = .slice (some ⟨bk, off, none⟩) n c := hv 0 (by decide)
  have e1 : vs 1 = .slice a0 2 c0 := hv 1 (by decide)
  have e2 : vs 2 = .int .u64 g0 := hv 2 (by decide)
  have e3 : vs 3 = .int .i64 g0 := hv 3 (by decide)
  have e4 : vs 4 = .slice (some ⟨bk, off, none⟩) n c := hv 4 (by decide)
  have e5 : vs 5 = .slice a1 2 c1 := hv 5 (by decide)
  have e6 : vs 6 = .int .u64 g1' := hv 6 (by decide)
  have e7 : vs 7 = .int .i64 g1' := hv 7 (by decide)
  have e8 : vs 8 = .slice (some ⟨bk, off, none⟩) n c := hv 8 (by decide)
  have e9 : vs 9 = .slice a2 4 c2 := hv 9 (by decide)
  have e10 : vs 10 = .int .u64 g2 := hv 10 (by decide)
  have e11 : vs 11 = .int .u32 g2 := hv 11 (by decide)
  have e12 : vs 12 = .slice (some ⟨bk, off, none⟩) n c := hv 12 (by decide)
  have e13 : vs 13 = .slice a3 4 c3 := hv 13 (by decide)
  have e14 : vs 14 = .int .u64 g3' := hv 14 (by decide)
  have e15 : vs 15 = .int .u32 g3' := hv 15 (by decide)
  have e16 : vs 16 = .slice (some ⟨bk, off, none⟩) n c := hv 16 (by decide)
  have e17 : vs 17 = .pointer (some ⟨bk, off + 13, none⟩) := hv 17 (by decide)
  have e18 : vs 18 = .int .u8 t13 := hv 18 (by decide)
  have e19 : vs 19 = .int .u8 (t13 % 64) := hv 19 (by decide)
  have e20 : vs 20 = .int .i64 (t13 % 64) := hv 20 (by decide)
  have e21 : vs 21 = .slice (some ⟨bk, off, none⟩) n c := hv 21 (by decide)
  have e22 : vs 22 = .slice a5 2 c5 := hv 22 (by decide)
  have e23 : vs 23 = .int .u64 g5' := hv 23 (by decide)
  have e24 : vs 24 = .int .i64 g5' := hv 24 (by decide)
  have e25 : vs 25 = .int .i64 ms := hv 25 (by decide)
  have e26 : vs 26 = .agg #[.int .i64 g0, .int .i64 g1', .int .u32 g2, .int .u32 g3', .int .i64 (t13 % 64), .int .i64 g5', .int .i64 ms, .slice none 0 0] := hv 26 (by decide)
  obtain ⟨b0_27, e27, r27_0, r27_1⟩ := hv 27 (by decide)
  clear hv hap
  simp only [putsT, Nat.zero_add, Nat.reduceAdd, List.getD_cons_zero, List.getD_cons_succ, Act.put, List.setIfInBounds_toArray, List.set_cons_zero, List.set_cons_succ, List.drop_succ_cons, List.drop_zero, e0, e1, e2, e3, e4, e5, e6, e7, e8, e9, e10, e11, e12, e13, e14, e15, e16, e17, e18, e19, e20, e21, e22, e23, e24, e25, e26, e27]
  clear e0 e1 e2 e3 e4 e5 e6 e7 e8 e9 e10 e11 e12 e13 e14 e15 e16 e17 e18 e19 e20 e21 e22 e23 e24 e25 e26 e27
  have hRz := hR3.grew gz
  have Gz := G3.trans gz
  have hRD : R ≠ b0_27 := by have := hR3.lt; omega
  generalize b0_27 = D at *
  have hDw : w.heap.size ≤ D := by have := G3.size; omega
  clear hR3 gz
  refine wpList_store_any rfl 25 (.tmp 11) (.tmp 81) rfl rfl (new := #[.int .i64 g0, .int .i64 g1', .int .u32 g2, .int .u32 g3', .int .i64 (t13 % 64), .int .i64 g5', .int .i64 ms, .slice none 0 0]) r27_1 sgInfo rfl (by simp [Value.oneCell']) (by simp [noU8]) (by rfl) (by rfl) ?_
  intro w4 hD t4 kk4
  have hR4 := hRz.trn t4 hRD
  have G4 := t4.grew Gz hDw
  clear t4 kk4 r27_0 r27_1 hRz Gz
  go_upto_region 14 with fail
  have geN : Grew w4 (w4.alloc (.cells #[] 5)) := (Grew.refl w4).alloc _
  have HEN : Hid (Row (w4.alloc (.cells #[] 5)) w4.heap.size (.slice (some ⟨w4.heap.size, 0, none⟩) 0 0) []) := Lib.hid (Row.lit w4 w4.heap.size (Nat.le_refl _) #[] [] rfl (by unfold maxLen; simp) _ rfl 0 rfl)
  have HSN := Lib.hid ((HNB.out.grew G4).grew geN)
  go_upto_region 15 with (first | (refine wpList_append_b (W := w4) rfl (.tmp 82) (.tmp 85) rfl geN HEN.out HSN.out (by rfl) (by rfl) HLN.out ?_; intro vN xN RN gN yN; clear yN; have hbN := RN.out.buf HON.out; clear RN; rw [List.nil_append] at hbN; obtain ⟨pN, kN, rfl, z1, z2⟩ := hbN.shape; clear z1 z2; have hDN := hD.grew gN; have qN := hDN.cell 7; have fN := hDN.free 7))
  have hD5 := hDN.set (o := 7) (.slice pN ys.length kN)
  have hb5 := (BufsKept.box (o := 7) hDN (by simp [noU8]) (.slice pN ys.length kN)) _ _ hbN
  have G5 := (G4.trans gN).setCell (b := D) (o := 7) hDw (.slice pN ys.length kN)
  have hR5 := (hR4.grew gN).other (c := D) (o := 7) hRD (.slice pN ys.length kN)
  clear hDN hbN gN qN fN HSN HEN geN hD hR4 G4
  generalize xN.setCell ⟨D, 7, none⟩ (.slice pN ys.length kN) = w5 at *
  replace hD5 : Blk w5 D #[.int .i64 g0, .int .i64 g1', .int .u32 g2, .int .u32 g3', .int .i64 (t13 % 64), .int .i64 g5', .int .i64 ms, .slice pN ys.length kN] 25 := hD5
  have HB5 := Lib.hid hb5
  clear hb5
  go_wp2_with (first
    | (refine wpList_load_any rfl 25 (.tmp 11) rfl hD5 Try.underlying25 rfl sgInfo (by rfl) ?_)
    | (refine wpList_store_any rfl 25 (.tmp 6) (.tmp 88) rfl rfl (new := #[.int .i64 g0, .int .i64 g1', .int .u32 g2, .int .u32 g3', .int .i64 (t13 % 64), .int .i64 g5', .int .i64 ms, .slice pN ys.length kN]) hR5 sgInfo rfl (by simp [Value.oneCell']) (by simp [noU8]) (by rfl) (by rfl) ?_; intro w7 E t7 kk7; have GE := t7.grew G5 (by omega)))
  have z0 := E.cell 0
  have z1 := E.cell 1
  have z2 := E.cell 2
  have z3 := E.cell 3
  have z4 := E.cell 4
  have z5 := E.cell 5
  have z6 := E.cell 6
  have z7 := E.cell 7
  have hfr := Sg.of (kk7 _ _ HB5.out) HI.out.1.1 HI.out.1.2.1 HI.out.1.2.2.1 HI.out.1.2.2.2 HI.out.2.1 HI.out.2.2 hms.out
  rw [HF.out]
  exact bodyPost_ret (v := .tuple #[.agg #[.int .i64 g0, .int .i64 g1', .int .u32 g2, .int .u32 g3', .int .i64 (t13 % 64), .int .i64 g5', .int .i64 ms, .slice pN ys.length kN], .int .i64 0]) (by simp [results, Try.results11, go_sem, z0, z1, z2, z3, z4, z5, z6, z7]) rfl ⟨_, rfl, hfr, GE⟩
theorem refGet19_c {v : Value} {xs : List Int} (src dst : Int) (hsr : 0 ≤ src ∧ src < 4294967296) (hdr : 0 ≤ dst ∧ dst < 4294967296) {w : World} (hb : Buf w v xs) :
    Calls Try.prog 11 #[v, .int .u32 src, .int .u32 dst] w fun e w' => ∃ u, e = .returned (.tuple #[u, .int .i64 (getSGE xs src dst)]) ∧ Sg w' u (getSG xs src dst) ∧ Grew w w' := by
  obtain ⟨a, c, rfl, _, _⟩ := hb.shape
  have zero : ∀ {k : Int}, getSGE xs src dst = k → k ≠ 0 → (Calls Try.prog 11 #[.slice a xs.length c, .int .u32 src, .int .u32 dst] w fun e w' => ∃ u, e = .returned (.tuple #[u, .int .i64 k]) ∧ Sg w' u zSG ∧ Grew w w') → Calls Try.prog 11 #[.slice a xs.length c, .int .u32 src, .int .u32 dst] w fun e w' => ∃ u, e = .returned (.tuple #[u, .int .i64 (getSGE xs src dst)]) ∧ Sg w' u (getSG xs src dst) ∧ Grew w w' := fun hk h0 h => by
    unfold getSG
    rw [hk, if_neg h0]
    exact h
  by_cases h0 : xs.length < 20
  · exact zero (k := 160) (by unfold getSGE; rw [if_pos h0]) (by omega) (refGetS_short a _ c src dst (by omega) w)
  · have hs : ¬ ((xs.length : Int) < 20) := by omega
    by_cases h1 : (65535 : Int) < (xs.length : Nat)
    · exact zero (k := 161) (by unfold getSGE; rw [if_neg h0, if_pos (by omega)]) (by omega) (refGetS_1 a _ c xs src dst hsr hdr hs hb h1)
    · by_cases h2 : hoSG xs < 20
      · exact zero (k := 161) (by unfold getSGE; rw [if_neg h0, if_pos (by omega)]) (by omega) (refGetS_2 a _ c xs src dst hsr hdr hs hb h1 h2)
      · have h12 : ¬ (65535 < xs.length ∨ hoSG xs < 20) := by omega
        by_cases h3 : xs.length < hoSG xs
        · exact zero (k := 160) (by unfold getSGE; rw [if_neg h0, if_neg h12, if_pos h3]) (by omega) (refGetS_3 a _ c xs src dst hsr hdr hs hb h1 h2 h3)
        · by_cases h4 : sumV (psSG src dst xs.length ++ xs) = 0
          · cases h5 : (mssV (cutL xs 20 (hoSG xs))).2
            · exact zero (k := 161) (by unfold getSGE; rw [if_neg h0, if_neg h12, if_neg h3, if_neg (by omega), if_pos h5]) (by omega) (refGetS_5 a _ c xs src dst hsr hdr hs hb h1 h2 h3 h4 h5)
            · have hk : getSGE xs src dst = 0 := by unfold getSGE; rw [if_neg h0, if_neg h12, if_neg h3, if_neg (by omega), if_neg (by rw [h5]; simp)]
              unfold getSG
              rw [hk, if_pos rfl]
              exact refGetS_6 a _ c xs src dst hsr hdr hs hb h1 h2 h3 h4 h5
          · exact zero (k := 162) (by unfold getSGE; rw [if_neg h0, if_neg h12, if_neg h3, if_pos h4]) (by omega) (refGetS_4 a _ c xs src dst hsr hdr hs hb h1 h2 h3 h4)
end Go.Proofs.Ytiaejlbkdgcfiaa
