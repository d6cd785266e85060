/-
  Package uart: a line that shares nothing (own).
-/
import Derived.Test.YtegncliegmknaaaUaA
set_option linter.unusedVariables false
set_option linter.unusedSimpArgs false
namespace Go.Proofs.Ytegncliegmknaaa
open Go.RowKit

abbrev zeroU : Array Value := #[.slice none 0 0, .slice none 0 0, .int .i64 0, .int .i64 0]
set_option maxHeartbeats 1000000 in
theorem own_c {s : US} (l1 : s.i.length ≤ 140737488355328) (l2 : s.o.length ≤ 140737488355328) {a1 : Option Addr} {c1 : Nat} {a2 : Option Addr} {c2 : Nat} {w : World} (hP : Ua w (uaV s a1 c1 a2 c2) s) :
    Calls Try.prog 14 #[uaV s a1 c1 a2 c2] w fun e w' => ∃ b1 d1 b2 d2, e = .returned (uaV s b1 d1 b2 d2) ∧ Hid (Uar w' w.heap.size (uaV s b1 d1 b2 d2) s) ∧ Grew w w' := by
  have HP := Lib.hid hP
  clear hP
  go_enter Try.func14, Try.ntmps14
  go_upto_region 1 with fail
  have hA : Blk ((w.alloc (.cells #[.slice a1 s.i.length c1, .slice a2 s.o.length c2, .int .i64 s.ie, .int .i64 s.lost] 26)).alloc (.cells zeroU 26)) w.heap.size #[.slice a1 s.i.length c1, .slice a2 s.o.length c2, .int .i64 s.ie, .int .i64 s.lost] 26 := (Blk.new _ _ _ _ rfl).alloc _
  have hR : Blk ((w.alloc (.cells #[.slice a1 s.i.length c1, .slice a2 s.o.length c2, .int .i64 s.ie, .int .i64 s.lost] 26)).alloc (.cells zeroU 26)) (w.heap.size + 1) zeroU 26 := Blk.new _ _ _ _ (by simp)
  have g0 : Grew w ((w.alloc (.cells #[.slice a1 s.i.length c1, .slice a2 s.o.length c2, .int .i64 s.ie, .int .i64 s.lost] 26)).alloc (.cells zeroU 26)) := ((Grew.refl w).alloc _).alloc _
  have hz : w.heap.size ≤ w.heap.size := Nat.le_refl _
  have HP0 := Lib.hid (HP.out.grew g0)
  generalize ((w.alloc (.cells #[.slice a1 s.i.length c1, .slice a2 s.o.length c2, .int .i64 s.ie, .int .i64 s.lost] 26)).alloc (.cells zeroU 26)) = w0 at *
  have cA := hA.cell 0
  go_wp2_with fail
  refine (clone_c l1 HP0.out.i).mono ?_
  rintro e w1 ⟨b1, d1, rfl, H1, g1⟩
  have hA1 := hA.grew g1
  have lA := hA.lt
  have lR := hR.lt
  have hR1 := hR.grew g1
  have HP1 := Lib.hid (HP0.out.grew g1)
  clear cA
  have cA := hA1.cell 0
  have fA := hA1.free 0
  go_upto_region 2 with fail
  clear cA fA
  have hA2 := hA1.set (o := 0) (.slice b1 s.i.length d1)
  have hR2 := hR1.other (c := w.heap.size) (o := 0) (by omega) (.slice b1 s.i.length d1)
  have G2 := (g0.trans g1).setCell (b := w.heap.size) (o := 0) (Nat.le_refl _) (.slice b1 s.i.length d1)
  have H2 := Lib.hid ((H1.out.set (c := w.heap.size) (o := 0) lA (.slice b1 s.i.length d1)).low g0.size)
  have HO : Hid (Buf (w1.setCell ⟨w.heap.size, 0, none⟩ (.slice b1 s.i.length d1)) (.slice a2 s.o.length c2) s.o) := Lib.hid (HP.out.o.grew G2)
  clear H1 hA1 hR1 HP1
  generalize w1.setCell ⟨w.heap.size, 0, none⟩ (.slice b1 s.i.length d1) = w2 at *
  replace hA2 : Blk w2 w.heap.size #[.slice b1 s.i.length d1, .slice a2 s.o.length c2, .int .i64 s.ie, .int .i64 s.lost] 26 := hA2
  have cA := hA2.cell 1
  go_wp2_with fail
  refine (clone_c l2 HO.out).mono ?_
  rintro e w3 ⟨b2, d2, rfl, H3, g3⟩
  have hA3 := hA2.grew g3
  have hR3 := hR2.grew g3
  have lA := hA2.lt
  clear cA
  have cA := hA3.cell 1
  have fA := hA3.free 1
  go_upto_region 3 with fail
  clear cA fA
  have hA4 := hA3.set (o := 1) (.slice b2 s.o.length d2)
  have hR4 := hR3.other (c := w.heap.size) (o := 1) (by omega) (.slice b2 s.o.length d2)
  have G4 := (G2.trans g3).setCell (b := w.heap.size) (o := 1) (Nat.le_refl _) (.slice b2 s.o.length d2)
  have H4 := Lib.hid ((H3.out.set (c := w.heap.size) (o := 1) lA (.slice b2 s.o.length d2)).low G2.size)
  have H2' := Lib.hid (Row.box (H2.out.grew g3) hA3 (by decide) (o := 1) (.slice b2 s.o.length d2))
  clear H2 H3 hA3 hR3
  generalize w3.setCell ⟨w.heap.size, 1, none⟩ (.slice b2 s.o.length d2) = w4 at *
  replace hA4 : Blk w4 w.heap.size #[.slice b1 s.i.length d1, .slice b2 s.o.length d2, .int .i64 s.ie, .int .i64 s.lost] 26 := hA4
  have y0 := hA4.cell 0
  have y1 := hA4.cell 1
  have y2 := hA4.cell 2
  have y3 := hA4.cell 3
  have r0 := hR4.cell 0
  have r1 := hR4.cell 1
  have r2 := hR4.cell 2
  have r3 := hR4.cell 3
  have f0 := hR4.free 0
  have f1 := hR4.free 1
  have f2 := hR4.free 2
  have f3 := hR4.free 3
  go_wp2_with fail
  have hE := (((hR4.set (o := 0) (.slice b1 s.i.length d1)).set (o := 1) (.slice b2 s.o.length d2)).set (o := 2) (.int .i64 s.ie)).set (o := 3) (.int .i64 s.lost)
  have z0 := hE.cell 0
  have z1 := hE.cell 1
  have z2 := hE.cell 2
  have z3 := hE.cell 3
  have gE := (((G4.setCell (b := w.heap.size + 1) (o := 0) (by omega) (.slice b1 s.i.length d1)).setCell (b := w.heap.size + 1) (o := 1) (by omega) (.slice b2 s.o.length d2)).setCell (b := w.heap.size + 1) (o := 2) (by omega) (.int .i64 s.ie)).setCell (b := w.heap.size + 1) (o := 3) (by omega) (.int .i64 s.lost)
  have k0 := hR4.set (o := 0) (.slice b1 s.i.length d1)
  have k1 := k0.set (o := 1) (.slice b2 s.o.length d2)
  have k2 := k1.set (o := 2) (.int .i64 s.ie)
  have E1 := (((H2'.out.box hR4 (by decide) (o := 0) (.slice b1 s.i.length d1)).box k0 (by decide) (o := 1) (.slice b2 s.o.length d2)).box k1 (by decide) (o := 2) (.int .i64 s.ie)).box k2 (by decide) (o := 3) (.int .i64 s.lost)
  have E2 := (((H4.out.box hR4 (by decide) (o := 0) (.slice b1 s.i.length d1)).box k0 (by decide) (o := 1) (.slice b2 s.o.length d2)).box k1 (by decide) (o := 2) (.int .i64 s.ie)).box k2 (by decide) (o := 3) (.int .i64 s.lost)
  exact bodyPost_ret (v := uaV s b1 d1 b2 d2) (by simp [results, Try.results14, go_sem, z0, z1, z2, z3]) rfl ⟨b1, d1, b2, d2, rfl, Lib.hid ⟨⟨_, _, rfl, E1, E2⟩, HP.out.i.ok, HP.out.o.ok, HP.out.ie, HP.out.lost⟩, gE⟩
end Go.Proofs.Ytegncliegmknaaa
