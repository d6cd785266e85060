/-
  The document's own Get of a packet.
-/
import Derived.Test.YtalbdeifkbfnbaaDoorIpR
import Derived.Test.YtalbdeifkbfnbaaDoorStep
import Derived.Test.YtalbdeifkbfnbaaDoorDeps
import Derived.Test.YtalbdeifkbfnbaaDoorKept
set_option maxRecDepth 4000
set_option linter.unusedVariables false
set_option linter.unusedSimpArgs false
namespace Go.Proofs.YtalbdeifkbfnbaaDoor
open Go.RowKit

theorem ipInfo : (Tryd.prog.info? 25).map (·.size) = some 10 := by kernel_rfl
theorem refGetP_short (a : Option Addr) (n c : Nat) (hs : (n : Int) < 20) (w : World) :
    Calls Tryd.prog 11 #[.slice a n c] w fun e w' => ∃ u, e = .returned (.tuple #[u, .int .i64 160]) ∧ Pk w' u zP ∧ Grew w w' := by
  go_enter Tryd.func11, Tryd.ntmps11
  go_upto_region 1 with fail
  have hR : Blk (w.alloc (.cells #[.int .i64 0, .int .i64 0, .int .i64 0, .int .i64 0, .int .i64 0, .int .i64 0, .int .u32 0, .int .u32 0, .slice none 0 0, .slice none 0 0] 25)) w.heap.size #[.int .i64 0, .int .i64 0, .int .i64 0, .int .i64 0, .int .i64 0, .int .i64 0, .int .u32 0, .int .u32 0, .slice none 0 0, .slice none 0 0] 25 := Blk.new _ _ _ _ rfl
  have G : Grew w (w.alloc (.cells #[.int .i64 0, .int .i64 0, .int .i64 0, .int .i64 0, .int .i64 0, .int .i64 0, .int .u32 0, .int .u32 0, .slice none 0 0, .slice none 0 0] 25)) := (Grew.refl _).alloc _
  generalize (w.alloc (.cells #[.int .i64 0, .int .i64 0, .int .i64 0, .int .i64 0, .int .i64 0, .int .i64 0, .int .u32 0, .int .u32 0, .slice none 0 0, .slice none 0 0] 25)) = w0 at *
  generalize hlR : w.heap.size = R at *
  have y0 := hR.cell 0
  have y1 := hR.cell 1
  have y2 := hR.cell 2
  have y3 := hR.cell 3
  have y4 := hR.cell 4
  have y5 := hR.cell 5
  have y6 := hR.cell 6
  have y7 := hR.cell 7
  have y8 := hR.cell 8
  have y9 := hR.cell 9
  have f0 := hR.free 0
  have f1 := hR.free 1
  have f2 := hR.free 2
  have f3 := hR.free 3
  have f4 := hR.free 4
  have f5 := hR.free 5
  have f6 := hR.free 6
  have f7 := hR.free 7
  have f8 := hR.free 8
  have f9 := hR.free 9
  go_wp2_with fail
  have E := ((((((((((hR.set (o := 0) (.int .i64 0)).set (o := 1) (.int .i64 0)).set (o := 2) (.int .i64 0)).set (o := 3) (.int .i64 0)).set (o := 4) (.int .i64 0)).set (o := 5) (.int .i64 0)).set (o := 6) (.int .u32 0)).set (o := 7) (.int .u32 0)).set (o := 8) (.slice none 0 0)).set (o := 9) (.slice none 0 0))
  have GE := ((((((((((G.setCell (b := R) (o := 0) (by omega) (.int .i64 0)).setCell (b := R) (o := 1) (by omega) (.int .i64 0)).setCell (b := R) (o := 2) (by omega) (.int .i64 0)).setCell (b := R) (o := 3) (by omega) (.int .i64 0)).setCell (b := R) (o := 4) (by omega) (.int .i64 0)).setCell (b := R) (o := 5) (by omega) (.int .i64 0)).setCell (b := R) (o := 6) (by omega) (.int .u32 0)).setCell (b := R) (o := 7) (by omega) (.int .u32 0)).setCell (b := R) (o := 8) (by omega) (.slice none 0 0)).setCell (b := R) (o := 9) (by omega) (.slice none 0 0))
  have z0 := E.cell 0
  have z1 := E.cell 1
  have z2 := E.cell 2
  have z3 := E.cell 3
  have z4 := E.cell 4
  have z5 := E.cell 5
  have z6 := E.cell 6
  have z7 := E.cell 7
  have z8 := E.cell 8
  have z9 := E.cell 9
  exact bodyPost_ret (v := .tuple #[.agg #[.int .i64 0, .int .i64 0, .int .i64 0, .int .i64 0, .int .i64 0, .int .i64 0, .int .u32 0, .int .u32 0, .slice none 0 0, .slice none 0 0], .int .i64 160]) (by simp [results, Tryd.results11, go_sem, z0, z1, z2, z3, z4, z5, z6, z7, z8, z9]) rfl ⟨_, rfl, Pk.zero _, GE⟩
set_option maxHeartbeats 2000000 in
theorem refGetP_0 (a : Option Addr) (n c : Nat) (xs : List Int) (hs : ¬ ((n : Int) < 20)) {w : World} (hb : Buf w (.slice a n c) xs) (h1 : (xs.getD 0 0 / 16 != 4) = true) :
    Calls Tryd.prog 11 #[.slice a n c] w fun e w' => ∃ u, e = .returned (.tuple #[u, .int .i64 161]) ∧ Pk w' u zP ∧ Grew w w' := by
  have hn := hb.lenEq.1
  have hne : xs ≠ [] := by rintro rfl; simp at hn; omega
  obtain ⟨_, _, ea, _, hat⟩ := hb.shape
  simp only [Value.slice.injEq] at ea
  obtain ⟨rfl, hn', rfl⟩ := ea
  clear hn'
  obtain ⟨bk, off, rfl, hat2⟩ := hat hne
  have hbl := hat2.lt hne
  have x0 : w.cell? ⟨bk, off + 0, none⟩ = some (.int .u8 (xs.getD 0 0)) := hat2 0 (by omega)
  have hx0 := hb.ok.getD 0
  have hN : ((hlV xs : Nat) : Int) = xs.getD 0 0 % 16 * 4 := by unfold hlV; omega
  obtain ⟨N, hNe⟩ : ∃ N, N = hlV xs := ⟨_, rfl⟩
  rw [← hNe] at hN
  have HX0 := Lib.hid x0
  have HNE := Lib.hid hNe
  have HN := Lib.hid hn
  have HB := Lib.hid hb
  generalize xs.getD 0 0 = x at *
  clear x0 hNe hat hat2 hne hn hb
  go_enter Tryd.func11, Tryd.ntmps11
  go_upto_region 1 with fail
  have hR : Blk (w.alloc (.cells #[.int .i64 0, .int .i64 0, .int .i64 0, .int .i64 0, .int .i64 0, .int .i64 0, .int .u32 0, .int .u32 0, .slice none 0 0, .slice none 0 0] 25)) w.heap.size #[.int .i64 0, .int .i64 0, .int .i64 0, .int .i64 0, .int .i64 0, .int .i64 0, .int .u32 0, .int .u32 0, .slice none 0 0, .slice none 0 0] 25 := Blk.new _ _ _ _ rfl
  have G : Grew w (w.alloc (.cells #[.int .i64 0, .int .i64 0, .int .i64 0, .int .i64 0, .int .i64 0, .int .i64 0, .int .u32 0, .int .u32 0, .slice none 0 0, .slice none 0 0] 25)) := (Grew.refl _).alloc _
  generalize (w.alloc (.cells #[.int .i64 0, .int .i64 0, .int .i64 0, .int .i64 0, .int .i64 0, .int .i64 0, .int .u32 0, .int .u32 0, .slice none 0 0, .slice none 0 0] 25)) = w0 at *
  generalize hlR : w.heap.size = R at *
  have y0 : w0.cell? ⟨bk, off, none⟩ = some (.int .u8 x) := by rw [(gcell G).1 bk off (by rw [hlR]; exact hbl)]; exact HX0.out
  go_upto_region 4 with fail
  rw [← hN]
  clear hN
  have y0' := hR.cell 0
  have y1 := hR.cell 1
  have y2 := hR.cell 2
  have y3 := hR.cell 3
  have y4 := hR.cell 4
  have y5 := hR.cell 5
  have y6 := hR.cell 6
  have y7 := hR.cell 7
  have y8 := hR.cell 8
  have y9 := hR.cell 9
  have f0 := hR.free 0
  have f1 := hR.free 1
  have f2 := hR.free 2
  have f3 := hR.free 3
  have f4 := hR.free 4
  have f5 := hR.free 5
  have f6 := hR.free 6
  have f7 := hR.free 7
  have f8 := hR.free 8
  have f9 := hR.free 9
  go_wp2_with fail
  have E := ((((((((((hR.set (o := 0) (.int .i64 0)).set (o := 1) (.int .i64 0)).set (o := 2) (.int .i64 0)).set (o := 3) (.int .i64 0)).set (o := 4) (.int .i64 0)).set (o := 5) (.int .i64 0)).set (o := 6) (.int .u32 0)).set (o := 7) (.int .u32 0)).set (o := 8) (.slice none 0 0)).set (o := 9) (.slice none 0 0))
  have GE := ((((((((((G.setCell (b := R) (o := 0) (by omega) (.int .i64 0)).setCell (b := R) (o := 1) (by omega) (.int .i64 0)).setCell (b := R) (o := 2) (by omega) (.int .i64 0)).setCell (b := R) (o := 3) (by omega) (.int .i64 0)).setCell (b := R) (o := 4) (by omega) (.int .i64 0)).setCell (b := R) (o := 5) (by omega) (.int .i64 0)).setCell (b := R) (o := 6) (by omega) (.int .u32 0)).setCell (b := R) (o := 7) (by omega) (.int .u32 0)).setCell (b := R) (o := 8) (by omega) (.slice none 0 0)).setCell (b := R) (o := 9) (by omega) (.slice none 0 0))
  have z0 := E.cell 0
  have z1 := E.cell 1
  have z2 := E.cell 2
  have z3 := E.cell 3
  have z4 := E.cell 4
  have z5 := E.cell 5
  have z6 := E.cell 6
  have z7 := E.cell 7
  have z8 := E.cell 8
  have z9 := E.cell 9
  exact bodyPost_ret (v := .tuple #[.agg #[.int .i64 0, .int .i64 0, .int .i64 0, .int .i64 0, .int .i64 0, .int .i64 0, .int .u32 0, .int .u32 0, .slice none 0 0, .slice none 0 0], .int .i64 161]) (by simp [results, Tryd.results11, go_sem, z0, z1, z2, z3, z4, z5, z6, z7, z8, z9]) rfl ⟨_, rfl, Pk.zero _, GE⟩
set_option maxHeartbeats 2000000 in
theorem refGetP_1 (a : Option Addr) (n c : Nat) (xs : List Int) (hs : ¬ ((n : Int) < 20)) {w : World} (hb : Buf w (.slice a n c) xs) (h1 : (xs.getD 0 0 / 16 != 4) = false) (h2 : hlV xs < 20) :
    Calls Tryd.prog 11 #[.slice a n c] w fun e w' => ∃ u, e = .returned (.tuple #[u, .int .i64 161]) ∧ Pk w' u zP ∧ Grew w w' := by
  have hn := hb.lenEq.1
  have hne : xs ≠ [] := by rintro rfl; simp at hn; omega
  obtain ⟨_, _, ea, _, hat⟩ := hb.shape
  simp only [Value.slice.injEq] at ea
  obtain ⟨rfl, hn', rfl⟩ := ea
  clear hn'
  obtain ⟨bk, off, rfl, hat2⟩ := hat hne
  have hbl := hat2.lt hne
  have x0 : w.cell? ⟨bk, off + 0, none⟩ = some (.int .u8 (xs.getD 0 0)) := hat2 0 (by omega)
  have hx0 := hb.ok.getD 0
  have hN : ((hlV xs : Nat) : Int) = xs.getD 0 0 % 16 * 4 := by unfold hlV; omega
  obtain ⟨N, hNe⟩ : ∃ N, N = hlV xs := ⟨_, rfl⟩
  rw [← hNe] at hN
  have HX0 := Lib.hid x0
  have HNE := Lib.hid hNe
  have HN := Lib.hid hn
  have HB := Lib.hid hb
  generalize xs.getD 0 0 = x at *
  rw [← hNe] at h2
  clear x0 hNe hat hat2 hne hn hb
  have k2 : (N : Int) < 20 := by omega
  go_enter Tryd.func11, Tryd.ntmps11
  go_upto_region 1 with fail
  have hR : Blk (w.alloc (.cells #[.int .i64 0, .int .i64 0, .int .i64 0, .int .i64 0, .int .i64 0, .int .i64 0, .int .u32 0, .int .u32 0, .slice none 0 0, .slice none 0 0] 25)) w.heap.size #[.int .i64 0, .int .i64 0, .int .i64 0, .int .i64 0, .int .i64 0, .int .i64 0, .int .u32 0, .int .u32 0, .slice none 0 0, .slice none 0 0] 25 := Blk.new _ _ _ _ rfl
  have G : Grew w (w.alloc (.cells #[.int .i64 0, .int .i64 0, .int .i64 0, .int .i64 0, .int .i64 0, .int .i64 0, .int .u32 0, .int .u32 0, .slice none 0 0, .slice none 0 0] 25)) := (Grew.refl _).alloc _
  generalize (w.alloc (.cells #[.int .i64 0, .int .i64 0, .int .i64 0, .int .i64 0, .int .i64 0, .int .i64 0, .int .u32 0, .int .u32 0, .slice none 0 0, .slice none 0 0] 25)) = w0 at *
  generalize hlR : w.heap.size = R at *
  have y0 : w0.cell? ⟨bk, off, none⟩ = some (.int .u8 x) := by rw [(gcell G).1 bk off (by rw [hlR]; exact hbl)]; exact HX0.out
  go_upto_region 4 with fail
  rw [← hN]
  clear hN
  have y0' := hR.cell 0
  have y1 := hR.cell 1
  have y2 := hR.cell 2
  have y3 := hR.cell 3
  have y4 := hR.cell 4
  have y5 := hR.cell 5
  have y6 := hR.cell 6
  have y7 := hR.cell 7
  have y8 := hR.cell 8
  have y9 := hR.cell 9
  have f0 := hR.free 0
  have f1 := hR.free 1
  have f2 := hR.free 2
  have f3 := hR.free 3
  have f4 := hR.free 4
  have f5 := hR.free 5
  have f6 := hR.free 6
  have f7 := hR.free 7
  have f8 := hR.free 8
  have f9 := hR.free 9
  go_wp2_with fail
  have E := ((((((((((hR.set (o := 0) (.int .i64 0)).set (o := 1) (.int .i64 0)).set (o := 2) (.int .i64 0)).set (o := 3) (.int .i64 0)).set (o := 4) (.int .i64 0)).set (o := 5) (.int .i64 0)).set (o := 6) (.int .u32 0)).set (o := 7) (.int .u32 0)).set (o := 8) (.slice none 0 0)).set (o := 9) (.slice none 0 0))
  have GE := ((((((((((G.setCell (b := R) (o := 0) (by omega) (.int .i64 0)).setCell (b := R) (o := 1) (by omega) (.int .i64 0)).setCell (b := R) (o := 2) (by omega) (.int .i64 0)).setCell (b := R) (o := 3) (by omega) (.int .i64 0)).setCell (b := R) (o := 4) (by omega) (.int .i64 0)).setCell (b := R) (o := 5) (by omega) (.int .i64 0)).setCell (b := R) (o := 6) (by omega) (.int .u32 0)).setCell (b := R) (o := 7) (by omega) (.int .u32 0)).setCell (b := R) (o := 8) (by omega) (.slice none 0 0)).setCell (b := R) (o := 9) (by omega) (.slice none 0 0))
  have z0 := E.cell 0
  have z1 := E.cell 1
  have z2 := E.cell 2
  have z3 := E.cell 3
  have z4 := E.cell 4
  have z5 := E.cell 5
  have z6 := E.cell 6
  have z7 := E.cell 7
  have z8 := E.cell 8
  have z9 := E.cell 9
  exact bodyPost_ret (v := .tuple #[.agg #[.int .i64 0, .int .i64 0, .int .i64 0, .int .i64 0, .int .i64 0, .int .i64 0, .int .u32 0, .int .u32 0, .slice none 0 0, .slice none 0 0], .int .i64 161]) (by simp [results, Tryd.results11, go_sem, z0, z1, z2, z3, z4, z5, z6, z7, z8, z9]) rfl ⟨_, rfl, Pk.zero _, GE⟩
set_option maxHeartbeats 2000000 in
theorem refGetP_2 (a : Option Addr) (n c : Nat) (xs : List Int) (hs : ¬ ((n : Int) < 20)) {w : World} (hb : Buf w (.slice a n c) xs) (h1 : (xs.getD 0 0 / 16 != 4) = false) (h2 : ¬ hlV xs < 20) (h3 : xs.length < hlV xs) :
    Calls Tryd.prog 11 #[.slice a n c] w fun e w' => ∃ u, e = .returned (.tuple #[u, .int .i64 160]) ∧ Pk w' u zP ∧ Grew w w' := by
  have hn := hb.lenEq.1
  have hne : xs ≠ [] := by rintro rfl; simp at hn; omega
  obtain ⟨_, _, ea, _, hat⟩ := hb.shape
  simp only [Value.slice.injEq] at ea
  obtain ⟨rfl, hn', rfl⟩ := ea
  clear hn'
  obtain ⟨bk, off, rfl, hat2⟩ := hat hne
  have hbl := hat2.lt hne
  have x0 : w.cell? ⟨bk, off + 0, none⟩ = some (.int .u8 (xs.getD 0 0)) := hat2 0 (by omega)
  have hx0 := hb.ok.getD 0
  have hN : ((hlV xs : Nat) : Int) = xs.getD 0 0 % 16 * 4 := by unfold hlV; omega
  obtain ⟨N, hNe⟩ : ∃ N, N = hlV xs := ⟨_, rfl⟩
  rw [← hNe] at hN
  have HX0 := Lib.hid x0
  have HNE := Lib.hid hNe
  have HN := Lib.hid hn
  have HB := Lib.hid hb
  generalize xs.getD 0 0 = x at *
  rw [← hNe] at h2
  rw [← hNe, ← hn] at h3
  clear x0 hNe hat hat2 hne hn hb
  have k2 : ¬ ((N : Int) < 20) := by omega
  have k3 : ((n : Nat) : Int) < (N : Nat) := by omega
  go_enter Tryd.func11, Tryd.ntmps11
  go_upto_region 1 with fail
  have hR : Blk (w.alloc (.cells #[.int .i64 0, .int .i64 0, .int .i64 0, .int .i64 0, .int .i64 0, .int .i64 0, .int .u32 0, .int .u32 0, .slice none 0 0, .slice none 0 0] 25)) w.heap.size #[.int .i64 0, .int .i64 0, .int .i64 0, .int .i64 0, .int .i64 0, .int .i64 0, .int .u32 0, .int .u32 0, .slice none 0 0, .slice none 0 0] 25 := Blk.new _ _ _ _ rfl
  have G : Grew w (w.alloc (.cells #[.int .i64 0, .int .i64 0, .int .i64 0, .int .i64 0, .int .i64 0, .int .i64 0, .int .u32 0, .int .u32 0, .slice none 0 0, .slice none 0 0] 25)) := (Grew.refl _).alloc _
  generalize (w.alloc (.cells #[.int .i64 0, .int .i64 0, .int .i64 0, .int .i64 0, .int .i64 0, .int .i64 0, .int .u32 0, .int .u32 0, .slice none 0 0, .slice none 0 0] 25)) = w0 at *
  generalize hlR : w.heap.size = R at *
  have y0 : w0.cell? ⟨bk, off, none⟩ = some (.int .u8 x) := by rw [(gcell G).1 bk off (by rw [hlR]; exact hbl)]; exact HX0.out
  go_upto_region 4 with fail
  rw [← hN]
  clear hN
  have y0' := hR.cell 0
  have y1 := hR.cell 1
  have y2 := hR.cell 2
  have y3 := hR.cell 3
  have y4 := hR.cell 4
  have y5 := hR.cell 5
  have y6 := hR.cell 6
  have y7 := hR.cell 7
  have y8 := hR.cell 8
  have y9 := hR.cell 9
  have f0 := hR.free 0
  have f1 := hR.free 1
  have f2 := hR.free 2
  have f3 := hR.free 3
  have f4 := hR.free 4
  have f5 := hR.free 5
  have f6 := hR.free 6
  have f7 := hR.free 7
  have f8 := hR.free 8
  have f9 := hR.free 9
  go_wp2_with fail
  have E := ((((((((((hR.set (o := 0) (.int .i64 0)).set (o := 1) (.int .i64 0)).set (o := 2) (.int .i64 0)).set (o := 3) (.int .i64 0)).set (o := 4) (.int .i64 0)).set (o := 5) (.int .i64 0)).set (o := 6) (.int .u32 0)).set (o := 7) (.int .u32 0)).set (o := 8) (.slice none 0 0)).set (o := 9) (.slice none 0 0))
  have GE := ((((((((((G.setCell (b := R) (o := 0) (by omega) (.int .i64 0)).setCell (b := R) (o := 1) (by omega) (.int .i64 0)).setCell (b := R) (o := 2) (by omega) (.int .i64 0)).setCell (b := R) (o := 3) (by omega) (.int .i64 0)).setCell (b := R) (o := 4) (by omega) (.int .i64 0)).setCell (b := R) (o := 5) (by omega) (.int .i64 0)).setCell (b := R) (o := 6) (by omega) (.int .u32 0)).setCell (b := R) (o := 7) (by omega) (.int .u32 0)).setCell (b := R) (o := 8) (by omega) (.slice none 0 0)).setCell (b := R) (o := 9) (by omega) (.slice none 0 0))
  have z0 := E.cell 0
  have z1 := E.cell 1
  have z2 := E.cell 2
  have z3 := E.cell 3
  have z4 := E.cell 4
  have z5 := E.cell 5
  have z6 := E.cell 6
  have z7 := E.cell 7
  have z8 := E.cell 8
  have z9 := E.cell 9
  exact bodyPost_ret (v := .tuple #[.agg #[.int .i64 0, .int .i64 0, .int .i64 0, .int .i64 0, .int .i64 0, .int .i64 0, .int .u32 0, .int .u32 0, .slice none 0 0, .slice none 0 0], .int .i64 160]) (by simp [results, Tryd.results11, go_sem, z0, z1, z2, z3, z4, z5, z6, z7, z8, z9]) rfl ⟨_, rfl, Pk.zero _, GE⟩
set_option maxHeartbeats 2000000 in
theorem refGetP_3 (a : Option Addr) (n c : Nat) (xs : List Int) (hs : ¬ ((n : Int) < 20)) {w : World} (hb : Buf w (.slice a n c) xs) (h1 : (xs.getD 0 0 / 16 != 4) = false) (h2 : ¬ hlV xs < 20) (h3 : ¬ xs.length < hlV xs) (h4 : ¬ sumV (cutL xs 0 (hlV xs)) = 0) :
    Calls Tryd.prog 11 #[.slice a n c] w fun e w' => ∃ u, e = .returned (.tuple #[u, .int .i64 162]) ∧ Pk w' u zP ∧ Grew w w' := by
  have hn := hb.lenEq.1
  have hne : xs ≠ [] := by rintro rfl; simp at hn; omega
  obtain ⟨_, _, ea, _, hat⟩ := hb.shape
  simp only [Value.slice.injEq] at ea
  obtain ⟨rfl, hn', rfl⟩ := ea
  clear hn'
  obtain ⟨bk, off, rfl, hat2⟩ := hat hne
  have hbl := hat2.lt hne
  have x0 : w.cell? ⟨bk, off + 0, none⟩ = some (.int .u8 (xs.getD 0 0)) := hat2 0 (by omega)
  have hx0 := hb.ok.getD 0
  have hN : ((hlV xs : Nat) : Int) = xs.getD 0 0 % 16 * 4 := by unfold hlV; omega
  obtain ⟨N, hNe⟩ : ∃ N, N = hlV xs := ⟨_, rfl⟩
  rw [← hNe] at hN
  have HX0 := Lib.hid x0
  have HNE := Lib.hid hNe
  have HN := Lib.hid hn
  have HB := Lib.hid hb
  generalize xs.getD 0 0 = x at *
  rw [← hNe] at h2
  rw [← hNe, ← hn] at h3
  rw [← hNe] at h4
  clear x0 hNe hat hat2 hne hn hb
  have k2 : ¬ ((N : Int) < 20) := by omega
  have k3 : ¬ (((n : Nat) : Int) < (N : Nat)) := by omega
  have hn := HN.out
  obtain ⟨a1, c1, H1, x1, x2, x3, x4⟩ := HB.out.run_cut (lo := 0) (hi := N) (by omega) (by omega)
  have r1 : ∀ w', (Instr.sliceAt 23 (.slice (some ⟨bk, off, none⟩) n c) none (some (.int .i64 (N : Nat))) none).run Tryd.prog w' = .ok (.slice a1 N c1) w' := x3 rfl .i64
  replace H1 : Hid (Buf w (.slice a1 N c1) (cutL xs 0 N)) := Lib.hid H1
  clear x1 x2 x3 x4
  have HR := Lib.hid (fun w' (g : Grew w w') => refRight_c w' (H1.out.grew g) (by rw [cutL_length (by omega) (by omega)]; omega))
  rw [show decide (sumV (cutL xs 0 N) = 0) = false by first | exact decide_eq_false h4 | exact decide_eq_true h4] at HR
  clear h4 hn
  go_enter Tryd.func11, Tryd.ntmps11
  go_upto_region 1 with fail
  have hR : Blk (w.alloc (.cells #[.int .i64 0, .int .i64 0, .int .i64 0, .int .i64 0, .int .i64 0, .int .i64 0, .int .u32 0, .int .u32 0, .slice none 0 0, .slice none 0 0] 25)) w.heap.size #[.int .i64 0, .int .i64 0, .int .i64 0, .int .i64 0, .int .i64 0, .int .i64 0, .int .u32 0, .int .u32 0, .slice none 0 0, .slice none 0 0] 25 := Blk.new _ _ _ _ rfl
  have G : Grew w (w.alloc (.cells #[.int .i64 0, .int .i64 0, .int .i64 0, .int .i64 0, .int .i64 0, .int .i64 0, .int .u32 0, .int .u32 0, .slice none 0 0, .slice none 0 0] 25)) := (Grew.refl _).alloc _
  generalize (w.alloc (.cells #[.int .i64 0, .int .i64 0, .int .i64 0, .int .i64 0, .int .i64 0, .int .i64 0, .int .u32 0, .int .u32 0, .slice none 0 0, .slice none 0 0] 25)) = w0 at *
  generalize hlR : w.heap.size = R at *
  have y0 : w0.cell? ⟨bk, off, none⟩ = some (.int .u8 x) := by rw [(gcell G).1 bk off (by rw [hlR]; exact hbl)]; exact HX0.out
  go_upto_region 4 with fail
  rw [← hN]
  clear hN
  go_wp2_with fail
  refine (HR.out _ G).mono ?_
  rintro e w1 ⟨rfl, g1⟩
  have G1 := G.trans g1
  have hR1 := hR.grew g1
  have y0' := hR1.cell 0
  have y1 := hR1.cell 1
  have y2 := hR1.cell 2
  have y3 := hR1.cell 3
  have y4 := hR1.cell 4
  have y5 := hR1.cell 5
  have y6 := hR1.cell 6
  have y7 := hR1.cell 7
  have y8 := hR1.cell 8
  have y9 := hR1.cell 9
  have f0 := hR1.free 0
  have f1 := hR1.free 1
  have f2 := hR1.free 2
  have f3 := hR1.free 3
  have f4 := hR1.free 4
  have f5 := hR1.free 5
  have f6 := hR1.free 6
  have f7 := hR1.free 7
  have f8 := hR1.free 8
  have f9 := hR1.free 9
  go_wp2_with fail
  have E := ((((((((((hR1.set (o := 0) (.int .i64 0)).set (o := 1) (.int .i64 0)).set (o := 2) (.int .i64 0)).set (o := 3) (.int .i64 0)).set (o := 4) (.int .i64 0)).set (o := 5) (.int .i64 0)).set (o := 6) (.int .u32 0)).set (o := 7) (.int .u32 0)).set (o := 8) (.slice none 0 0)).set (o := 9) (.slice none 0 0))
  have GE := ((((((((((G1.setCell (b := R) (o := 0) (by omega) (.int .i64 0)).setCell (b := R) (o := 1) (by omega) (.int .i64 0)).setCell (b := R) (o := 2) (by omega) (.int .i64 0)).setCell (b := R) (o := 3) (by omega) (.int .i64 0)).setCell (b := R) (o := 4) (by omega) (.int .i64 0)).setCell (b := R) (o := 5) (by omega) (.int .i64 0)).setCell (b := R) (o := 6) (by omega) (.int .u32 0)).setCell (b := R) (o := 7) (by omega) (.int .u32 0)).setCell (b := R) (o := 8) (by omega) (.slice none 0 0)).setCell (b := R) (o := 9) (by omega) (.slice none 0 0))
  have z0 := E.cell 0
  have z1 := E.cell 1
  have z2 := E.cell 2
  have z3 := E.cell 3
  have z4 := E.cell 4
  have z5 := E.cell 5
  have z6 := E.cell 6
  have z7 := E.cell 7
  have z8 := E.cell 8
  have z9 := E.cell 9
  exact bodyPost_ret (v := .tuple #[.agg #[.int .i64 0, .int .i64 0, .int .i64 0, .int .i64 0, .int .i64 0, .int .i64 0, .int .u32 0, .int .u32 0, .slice none 0 0, .slice none 0 0], .int .i64 162]) (by simp [results, Tryd.results11, go_sem, z0, z1, z2, z3, z4, z5, z6, z7, z8, z9]) rfl ⟨_, rfl, Pk.zero _, GE⟩
set_option maxHeartbeats 2000000 in
theorem refGetP_4 (a : Option Addr) (n c : Nat) (xs : List Int) (hs : ¬ ((n : Int) < 20)) {w : World} (hb : Buf w (.slice a n c) xs) (h1 : (xs.getD 0 0 / 16 != 4) = false) (h2 : ¬ hlV xs < 20) (h3 : ¬ xs.length < hlV xs) (h4 : sumV (cutL xs 0 (hlV xs)) = 0) (h5 : alV xs < hlV xs) :
    Calls Tryd.prog 11 #[.slice a n c] w fun e w' => ∃ u, e = .returned (.tuple #[u, .int .i64 161]) ∧ Pk w' u zP ∧ Grew w w' := by
  have hn := hb.lenEq.1
  have hne : xs ≠ [] := by rintro rfl; simp at hn; omega
  obtain ⟨_, _, ea, _, hat⟩ := hb.shape
  simp only [Value.slice.injEq] at ea
  obtain ⟨rfl, hn', rfl⟩ := ea
  clear hn'
  obtain ⟨bk, off, rfl, hat2⟩ := hat hne
  have hbl := hat2.lt hne
  have x0 : w.cell? ⟨bk, off + 0, none⟩ = some (.int .u8 (xs.getD 0 0)) := hat2 0 (by omega)
  have hx0 := hb.ok.getD 0
  have hN : ((hlV xs : Nat) : Int) = xs.getD 0 0 % 16 * 4 := by unfold hlV; omega
  obtain ⟨N, hNe⟩ : ∃ N, N = hlV xs := ⟨_, rfl⟩
  rw [← hNe] at hN
  have HX0 := Lib.hid x0
  have HNE := Lib.hid hNe
  have HN := Lib.hid hn
  have HB := Lib.hid hb
  generalize xs.getD 0 0 = x at *
  rw [← hNe] at h2
  rw [← hNe, ← hn] at h3
  rw [← hNe] at h4
  rw [← hNe] at h5
  clear x0 hNe hat hat2 hne hn hb
  have k2 : ¬ ((N : Int) < 20) := by omega
  have k3 : ¬ (((n : Nat) : Int) < (N : Nat)) := by omega
  have hn := HN.out
  obtain ⟨a1, c1, H1, x1, x2, x3, x4⟩ := HB.out.run_cut (lo := 0) (hi := N) (by omega) (by omega)
  have r1 : ∀ w', (Instr.sliceAt 23 (.slice (some ⟨bk, off, none⟩) n c) none (some (.int .i64 (N : Nat))) none).run Tryd.prog w' = .ok (.slice a1 N c1) w' := x3 rfl .i64
  replace H1 : Hid (Buf w (.slice a1 N c1) (cutL xs 0 N)) := Lib.hid H1
  clear x1 x2 x3 x4
  have HR := Lib.hid (fun w' (g : Grew w w') => refRight_c w' (H1.out.grew g) (by rw [cutL_length (by omega) (by omega)]; omega))
  rw [show decide (sumV (cutL xs 0 N) = 0) = true by first | exact decide_eq_false h4 | exact decide_eq_true h4] at HR
  clear h4 hn
  have hn := HN.out
  obtain ⟨a2, c2, H2, x1, x2, x3, x4⟩ := HB.out.run_cut (lo := 2) (hi := 4) (by omega) (by omega)
  have r2 : ∀ w', (Instr.sliceAt 23 (.slice (some ⟨bk, off, none⟩) n c) (some (.int .i64 2)) (some (.int .i64 4)) none).run Tryd.prog w' = .ok (.slice a2 2 c2) w' := x2 .i64 .i64
  replace H2 : Hid (Buf w (.slice a2 2 c2) (cutL xs 2 4)) := Lib.hid H2
  clear x1 x2 x3 x4
  have HM := Lib.hid (fun w' (g : Grew w w') => refNumber_c (by rw [cutL_length (by omega) (by omega)]; omega) w' (H2.out.grew g))
  have hm0 := getG_lt (HB.out.ok.cut 2 4) true (n := 2) (cutL_length (by omega) (by omega)) (by omega)
  obtain ⟨M, hM⟩ : ∃ M, M = alV xs := ⟨_, rfl⟩
  have hMi : getV (cutL xs 2 4) true = (M : Int) := by rw [hM]; unfold alV; omega
  have HMM := Lib.hid hM
  rw [hMi] at HM
  rw [← hM] at h5
  clear hM hMi hm0 hn
  have k5 : ((M : Nat) : Int) < (N : Nat) := by omega
  skip
  go_enter Tryd.func11, Tryd.ntmps11
  go_upto_region 1 with fail
  have hR : Blk (w.alloc (.cells #[.int .i64 0, .int .i64 0, .int .i64 0, .int .i64 0, .int .i64 0, .int .i64 0, .int .u32 0, .int .u32 0, .slice none 0 0, .slice none 0 0] 25)) w.heap.size #[.int .i64 0, .int .i64 0, .int .i64 0, .int .i64 0, .int .i64 0, .int .i64 0, .int .u32 0, .int .u32 0, .slice none 0 0, .slice none 0 0] 25 := Blk.new _ _ _ _ rfl
  have G : Grew w (w.alloc (.cells #[.int .i64 0, .int .i64 0, .int .i64 0, .int .i64 0, .int .i64 0, .int .i64 0, .int .u32 0, .int .u32 0, .slice none 0 0, .slice none 0 0] 25)) := (Grew.refl _).alloc _
  generalize (w.alloc (.cells #[.int .i64 0, .int .i64 0, .int .i64 0, .int .i64 0, .int .i64 0, .int .i64 0, .int .u32 0, .int .u32 0, .slice none 0 0, .slice none 0 0] 25)) = w0 at *
  generalize hlR : w.heap.size = R at *
  have y0 : w0.cell? ⟨bk, off, none⟩ = some (.int .u8 x) := by rw [(gcell G).1 bk off (by rw [hlR]; exact hbl)]; exact HX0.out
  go_upto_region 4 with fail
  rw [← hN]
  clear hN
  go_wp2_with fail
  refine (HR.out _ G).mono ?_
  rintro e w1 ⟨rfl, g1⟩
  have G1 := G.trans g1
  have hR1 := hR.grew g1
  go_wp2_with fail
  refine (HM.out _ G1).mono ?_
  rintro e w2 ⟨rfl, g2⟩
  have G2 := G1.trans g2
  have hR2 := hR1.grew g2
  have y0' := hR2.cell 0
  have y1 := hR2.cell 1
  have y2 := hR2.cell 2
  have y3 := hR2.cell 3
  have y4 := hR2.cell 4
  have y5 := hR2.cell 5
  have y6 := hR2.cell 6
  have y7 := hR2.cell 7
  have y8 := hR2.cell 8
  have y9 := hR2.cell 9
  have f0 := hR2.free 0
  have f1 := hR2.free 1
  have f2 := hR2.free 2
  have f3 := hR2.free 3
  have f4 := hR2.free 4
  have f5 := hR2.free 5
  have f6 := hR2.free 6
  have f7 := hR2.free 7
  have f8 := hR2.free 8
  have f9 := hR2.free 9
  go_wp2_with fail
  have E := ((((((((((hR2.set (o := 0) (.int .i64 0)).set (o := 1) (.int .i64 0)).set (o := 2) (.int .i64 0)).set (o := 3) (.int .i64 0)).set (o := 4) (.int .i64 0)).set (o := 5) (.int .i64 0)).set (o := 6) (.int .u32 0)).set (o := 7) (.int .u32 0)).set (o := 8) (.slice none 0 0)).set (o := 9) (.slice none 0 0))
  have GE := ((((((((((G2.setCell (b := R) (o := 0) (by omega) (.int .i64 0)).setCell (b := R) (o := 1) (by omega) (.int .i64 0)).setCell (b := R) (o := 2) (by omega) (.int .i64 0)).setCell (b := R) (o := 3) (by omega) (.int .i64 0)).setCell (b := R) (o := 4) (by omega) (.int .i64 0)).setCell (b := R) (o := 5) (by omega) (.int .i64 0)).setCell (b := R) (o := 6) (by omega) (.int .u32 0)).setCell (b := R) (o := 7) (by omega) (.int .u32 0)).setCell (b := R) (o := 8) (by omega) (.slice none 0 0)).setCell (b := R) (o := 9) (by omega) (.slice none 0 0))
  have z0 := E.cell 0
  have z1 := E.cell 1
  have z2 := E.cell 2
  have z3 := E.cell 3
  have z4 := E.cell 4
  have z5 := E.cell 5
  have z6 := E.cell 6
  have z7 := E.cell 7
  have z8 := E.cell 8
  have z9 := E.cell 9
  exact bodyPost_ret (v := .tuple #[.agg #[.int .i64 0, .int .i64 0, .int .i64 0, .int .i64 0, .int .i64 0, .int .i64 0, .int .u32 0, .int .u32 0, .slice none 0 0, .slice none 0 0], .int .i64 161]) (by simp [results, Tryd.results11, go_sem, z0, z1, z2, z3, z4, z5, z6, z7, z8, z9]) rfl ⟨_, rfl, Pk.zero _, GE⟩
set_option maxHeartbeats 2000000 in
theorem refGetP_5 (a : Option Addr) (n c : Nat) (xs : List Int) (hs : ¬ ((n : Int) < 20)) {w : World} (hb : Buf w (.slice a n c) xs) (h1 : (xs.getD 0 0 / 16 != 4) = false) (h2 : ¬ hlV xs < 20) (h3 : ¬ xs.length < hlV xs) (h4 : sumV (cutL xs 0 (hlV xs)) = 0) (h5 : ¬ alV xs < hlV xs) (h6 : xs.length < alV xs) :
    Calls Tryd.prog 11 #[.slice a n c] w fun e w' => ∃ u, e = .returned (.tuple #[u, .int .i64 160]) ∧ Pk w' u zP ∧ Grew w w' := by
  have hn := hb.lenEq.1
  have hne : xs ≠ [] := by rintro rfl; simp at hn; omega
  obtain ⟨_, _, ea, _, hat⟩ := hb.shape
  simp only [Value.slice.injEq] at ea
  obtain ⟨rfl, hn', rfl⟩ := ea
  clear hn'
  obtain ⟨bk, off, rfl, hat2⟩ := hat hne
  have hbl := hat2.lt hne
  have x0 : w.cell? ⟨bk, off + 0, none⟩ = some (.int .u8 (xs.getD 0 0)) := hat2 0 (by omega)
  have hx0 := hb.ok.getD 0
  have hN : ((hlV xs : Nat) : Int) = xs.getD 0 0 % 16 * 4 := by unfold hlV; omega
  obtain ⟨N, hNe⟩ : ∃ N, N = hlV xs := ⟨_, rfl⟩
  rw [← hNe] at hN
  have HX0 := Lib.hid x0
  have HNE := Lib.hid hNe
  have HN := Lib.hid hn
  have HB := Lib.hid hb
  generalize xs.getD 0 0 = x at *
  rw [← hNe] at h2
  rw [← hNe, ← hn] at h3
  rw [← hNe] at h4
  rw [← hNe] at h5
  rw [← hn] at h6
  clear x0 hNe hat hat2 hne hn hb
  have k2 : ¬ ((N : Int) < 20) := by omega
  have k3 : ¬ (((n : Nat) : Int) < (N : Nat)) := by omega
  have hn := HN.out
  obtain ⟨a1, c1, H1, x1, x2, x3, x4⟩ := HB.out.run_cut (lo := 0) (hi := N) (by omega) (by omega)
  have r1 : ∀ w', (Instr.sliceAt 23 (.slice (some ⟨bk, off, none⟩) n c) none (some (.int .i64 (N : Nat))) none).run Tryd.prog w' = .ok (.slice a1 N c1) w' := x3 rfl .i64
  replace H1 : Hid (Buf w (.slice a1 N c1) (cutL xs 0 N)) := Lib.hid H1
  clear x1 x2 x3 x4
  have HR := Lib.hid (fun w' (g : Grew w w') => refRight_c w' (H1.out.grew g) (by rw [cutL_length (by omega) (by omega)]; omega))
  rw [show decide (sumV (cutL xs 0 N) = 0) = true by first | exact decide_eq_false h4 | exact decide_eq_true h4] at HR
  clear h4 hn
  have hn := HN.out
  obtain ⟨a2, c2, H2, x1, x2, x3, x4⟩ := HB.out.run_cut (lo := 2) (hi := 4) (by omega) (by omega)
  have r2 : ∀ w', (Instr.sliceAt 23 (.slice (some ⟨bk, off, none⟩) n c) (some (.int .i64 2)) (some (.int .i64 4)) none).run Tryd.prog w' = .ok (.slice a2 2 c2) w' := x2 .i64 .i64
  replace H2 : Hid (Buf w (.slice a2 2 c2) (cutL xs 2 4)) := Lib.hid H2
  clear x1 x2 x3 x4
  have HM := Lib.hid (fun w' (g : Grew w w') => refNumber_c (by rw [cutL_length (by omega) (by omega)]; omega) w' (H2.out.grew g))
  have hm0 := getG_lt (HB.out.ok.cut 2 4) true (n := 2) (cutL_length (by omega) (by omega)) (by omega)
  obtain ⟨M, hM⟩ : ∃ M, M = alV xs := ⟨_, rfl⟩
  have hMi : getV (cutL xs 2 4) true = (M : Int) := by rw [hM]; unfold alV; omega
  have HMM := Lib.hid hM
  rw [hMi] at HM
  rw [← hM] at h5 h6
  clear hM hMi hm0 hn
  have k5 : ¬ (((M : Nat) : Int) < (N : Nat)) := by omega
  have k6 : ((n : Nat) : Int) < (M : Nat) := by omega
  go_enter Tryd.func11, Tryd.ntmps11
  go_upto_region 1 with fail
  have hR : Blk (w.alloc (.cells #[.int .i64 0, .int .i64 0, .int .i64 0, .int .i64 0, .int .i64 0, .int .i64 0, .int .u32 0, .int .u32 0, .slice none 0 0, .slice none 0 0] 25)) w.heap.size #[.int .i64 0, .int .i64 0, .int .i64 0, .int .i64 0, .int .i64 0, .int .i64 0, .int .u32 0, .int .u32 0, .slice none 0 0, .slice none 0 0] 25 := Blk.new _ _ _ _ rfl
  have G : Grew w (w.alloc (.cells #[.int .i64 0, .int .i64 0, .int .i64 0, .int .i64 0, .int .i64 0, .int .i64 0, .int .u32 0, .int .u32 0, .slice none 0 0, .slice none 0 0] 25)) := (Grew.refl _).alloc _
  generalize (w.alloc (.cells #[.int .i64 0, .int .i64 0, .int .i64 0, .int .i64 0, .int .i64 0, .int .i64 0, .int .u32 0, .int .u32 0, .slice none 0 0, .slice none 0 0] 25)) = w0 at *
  generalize hlR : w.heap.size = R at *
  have y0 : w0.cell? ⟨bk, off, none⟩ = some (.int .u8 x) := by rw [(gcell G).1 bk off (by rw [hlR]; exact hbl)]; exact HX0.out
  go_upto_region 4 with fail
  rw [← hN]
  clear hN
  go_wp2_with fail
  refine (HR.out _ G).mono ?_
  rintro e w1 ⟨rfl, g1⟩
  have G1 := G.trans g1
  have hR1 := hR.grew g1
  go_wp2_with fail
  refine (HM.out _ G1).mono ?_
  rintro e w2 ⟨rfl, g2⟩
  have G2 := G1.trans g2
  have hR2 := hR1.grew g2
  have y0' := hR2.cell 0
  have y1 := hR2.cell 1
  have y2 := hR2.cell 2
  have y3 := hR2.cell 3
  have y4 := hR2.cell 4
  have y5 := hR2.cell 5
  have y6 := hR2.cell 6
  have y7 := hR2.cell 7
  have y8 := hR2.cell 8
  have y9 := hR2.cell 9
  have f0 := hR2.free 0
  have f1 := hR2.free 1
  have f2 := hR2.free 2
  have f3 := hR2.free 3
  have f4 := hR2.free 4
  have f5 := hR2.free 5
  have f6 := hR2.free 6
  have f7 := hR2.free 7
  have f8 := hR2.free 8
  have f9 := hR2.free 9
  go_wp2_with fail
  have E := ((((((((((hR2.set (o := 0) (.int .i64 0)).set (o := 1) (.int .i64 0)).set (o := 2) (.int .i64 0)).set (o := 3) (.int .i64 0)).set (o := 4) (.int .i64 0)).set (o := 5) (.int .i64 0)).set (o := 6) (.int .u32 0)).set (o := 7) (.int .u32 0)).set (o := 8) (.slice none 0 0)).set (o := 9) (.slice none 0 0))
  have GE := ((((((((((G2.setCell (b := R) (o := 0) (by omega) (.int .i64 0)).setCell (b := R) (o := 1) (by omega) (.int .i64 0)).setCell (b := R) (o := 2) (by omega) (.int .i64 0)).setCell (b := R) (o := 3) (by omega) (.int .i64 0)).setCell (b := R) (o := 4) (by omega) (.int .i64 0)).setCell (b := R) (o := 5) (by omega) (.int .i64 0)).setCell (b := R) (o := 6) (by omega) (.int .u32 0)).setCell (b := R) (o := 7) (by omega) (.int .u32 0)).setCell (b := R) (o := 8) (by omega) (.slice none 0 0)).setCell (b := R) (o := 9) (by omega) (.slice none 0 0))
  have z0 := E.cell 0
  have z1 := E.cell 1
  have z2 := E.cell 2
  have z3 := E.cell 3
  have z4 := E.cell 4
  have z5 := E.cell 5
  have z6 := E.cell 6
  have z7 := E.cell 7
  have z8 := E.cell 8
  have z9 := E.cell 9
  exact bodyPost_ret (v := .tuple #[.agg #[.int .i64 0, .int .i64 0, .int .i64 0, .int .i64 0, .int .i64 0, .int .i64 0, .int .u32 0, .int .u32 0, .slice none 0 0, .slice none 0 0], .int .i64 160]) (by simp [results, Tryd.results11, go_sem, z0, z1, z2, z3, z4, z5, z6, z7, z8, z9]) rfl ⟨_, rfl, Pk.zero _, GE⟩
end Go.Proofs.YtalbdeifkbfnbaaDoor
