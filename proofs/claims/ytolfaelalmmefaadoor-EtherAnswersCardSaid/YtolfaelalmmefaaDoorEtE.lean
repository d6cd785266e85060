/-
  Package ether: message, Get, GetArp, of all bytes.
-/
import Derived.Test.YtolfaelalmmefaaDoorEtD
set_option maxRecDepth 4000
set_option linter.unusedVariables false
set_option linter.unusedSimpArgs false
namespace Go.Proofs.YtolfaelalmmefaaDoor
open Go.RowKit

theorem cutL_cut0 (xs : List Int) {m lo hi : Nat} (h : hi ≤ m) : cutL (cutL xs 0 m) lo hi = cutL xs lo hi := by
  rw [cutL_zero, cutL_take h]

set_option maxHeartbeats 2000000 in
theorem message_ok (a : Option Addr) (n c : Nat) (xs : List Int) (hs : ¬ ((n : Int) < 28)) (hE : decide (cutL xs 0 6 = headL) = true) (hO : decide ((arOf xs).op = 1 ∨ (arOf xs).op = 2) = true) {w : World} {a0 a1 a2 : Addr} (sn : Sen w a0 a1 a2) (hb : Buf w (.slice a n c) xs) :
    Calls Tryd.prog 27 #[.slice a n c] w fun e w' => ∃ u, e = .returned (.tuple #[u, .nilIface]) ∧ Ar w' u (arOf xs) ∧ Grew w w' := by
  have hn := hb.lenEq.1
  have hok := hb.ok
  obtain ⟨ac, cc, hcut, x1, x2, hrun, x3⟩ := hb.run_cut (lo := 0) (hi := 28) (by omega) (by omega)
  clear x1 x2 x3
  have hrun : ∀ w', (Instr.sliceAt 22 (.slice a n c) none (some (.int .i64 28)) none).run Tryd.prog w' = .ok (.slice ac 28 cc) w' := hrun rfl .i64
  have lx : (cutL xs 0 28).length = 28 := cutL_length (by omega) (by omega)
  have hA : arOf xs = arOf (cutL xs 0 28) := by
    unfold arOf
    simp only [cutL_cut0 xs (show 8 ≤ 28 by omega), cutL_cut0 xs (show 14 ≤ 28 by omega), cutL_cut0 xs (show 18 ≤ 28 by omega), cutL_cut0 xs (show 24 ≤ 28 by omega), cutL_cut0 xs (show 28 ≤ 28 by omega)]
  rw [← cutL_cut0 xs (show 6 ≤ 28 by omega)] at hE
  rw [hA]
  rw [hA] at hO
  have hok' := hok.cut 0 28
  generalize cutL xs 0 28 = ys at *
  have HP := Lib.hid (fun w' (g : Grew w w') => partsOf_c (v := .slice ac 28 cc) (xs := ys) (by rw [lx]; omega) (hcut.grew g))
  have hT : intI (getV (cutL ys 6 8) true) ∧ u32I (getV (cutL ys 14 18) true) ∧ u32I (getV (cutL ys 24 28) true) := by
    have h1 := getG_lt (hok'.cut 6 8) true (n := 2) (cutL_length (by omega) (by omega)) (by omega)
    have h2 := getG_lt (hok'.cut 14 18) true (n := 4) (cutL_length (by omega) (by omega)) (by omega)
    have h3 := getG_lt (hok'.cut 24 28) true (n := 4) (cutL_length (by omega) (by omega)) (by omega)
    unfold intI u32I; omega
  have HT := Lib.hid hT
  have HE := Lib.hid hE
  have HO := Lib.hid (show decide (getV (cutL ys 6 8) true = 1 ∨ getV (cutL ys 6 8) true = 2) = true from hO)
  clear hO
  replace hcut : Buf w (.slice ac 28 cc) ys := hcut
  have HA := Lib.hid hA
  clear hok hcut hb hn hT hok' hE hA
  go_enter Tryd.func27, Tryd.ntmps27
  go_upto_region 1 with fail
  have hR : Blk (w.alloc (.cells #[.int .i64 0, .slice none 0 0, .int .u32 0, .slice none 0 0, .int .u32 0] 34)) w.heap.size #[.int .i64 0, .slice none 0 0, .int .u32 0, .slice none 0 0, .int .u32 0] 34 := Blk.new _ _ _ _ rfl
  have g0 : Grew w (w.alloc (.cells #[.int .i64 0, .slice none 0 0, .int .u32 0, .slice none 0 0, .int .u32 0] 34)) := (Grew.refl _).alloc _
  generalize (w.alloc (.cells #[.int .i64 0, .slice none 0 0, .int .u32 0, .slice none 0 0, .int .u32 0] 34)) = w0 at *
  generalize hlR : w.heap.size = R at *
  go_upto_region 3 with fail
  go_wp2_with fail
  refine (HP.out _ g0).mono ?_
  rintro e w1 ⟨P, rfl, hPR, hP, g1⟩
  have hRP : R ≠ P := by have := hR.lt; omega
  have hR1 := hR.grew g1
  have G1 := g0.trans g1
  clear hrun
  go_wp2_with fail
  refine (take_c 6 (by omega) hP).mono ?_
  rintro e w2 ⟨ph, ch, rfl, bh, t1⟩
  have l2 : (cutL ys 6 ys.length).length = ys.length - 6 := cutL_length (by omega) (Nat.le_refl _)
  go_wp2_with fail
  refine (partPair_c (by rw [l2]; omega) t1.parts).mono ?_
  rintro e w3 ⟨rfl, t2⟩
  rw [cut_zero_all ys (by omega) (Nat.le_refl _) 2 (by omega), show 6 + 2 = 8 from rfl]
  obtain ⟨op, hop⟩ : ∃ op, op = getV (cutL ys 6 8) true := ⟨_, rfl⟩
  rw [← hop]
  have Hop := Lib.hid hop
  clear hop
  rw [l2, cut_cut ys (by omega) (Nat.le_refl _) 2 (by omega), show 6 + 2 = 8 from rfl] at t2
  have l3 : (cutL ys 8 ys.length).length = ys.length - 8 := cutL_length (by omega) (Nat.le_refl _)
  go_wp2_with fail
  refine (mac_c (by rw [l3]; omega) t2.parts).mono ?_
  rintro e w4 ⟨pb, cb, rfl, bb, t3⟩
  rw [cut_zero_all ys (by omega) (Nat.le_refl _) 6 (by omega), show 8 + 6 = 14 from rfl] at bb
  rw [l3, cut_cut ys (by omega) (Nat.le_refl _) 6 (by omega), show 8 + 6 = 14 from rfl] at t3
  have l4 : (cutL ys 14 ys.length).length = ys.length - 14 := cutL_length (by omega) (Nat.le_refl _)
  go_wp2_with fail
  refine (partAddress_c (by rw [l4]; omega) t3.parts).mono ?_
  rintro e w5 ⟨rfl, t4⟩
  rw [cut_zero_all ys (by omega) (Nat.le_refl _) 4 (by omega), show 14 + 4 = 18 from rfl]
  obtain ⟨si, hsi⟩ : ∃ si, si = getV (cutL ys 14 18) true := ⟨_, rfl⟩
  rw [← hsi]
  have Hsi := Lib.hid hsi
  clear hsi
  rw [l4, cut_cut ys (by omega) (Nat.le_refl _) 4 (by omega), show 14 + 4 = 18 from rfl] at t4
  have l5 : (cutL ys 18 ys.length).length = ys.length - 18 := cutL_length (by omega) (Nat.le_refl _)
  go_wp2_with fail
  refine (mac_c (by rw [l5]; omega) t4.parts).mono ?_
  rintro e w6 ⟨pd, cd, rfl, bd, t5⟩
  rw [cut_zero_all ys (by omega) (Nat.le_refl _) 6 (by omega), show 18 + 6 = 24 from rfl] at bd
  rw [l5, cut_cut ys (by omega) (Nat.le_refl _) 6 (by omega), show 18 + 6 = 24 from rfl] at t5
  have l6 : (cutL ys 24 ys.length).length = ys.length - 24 := cutL_length (by omega) (Nat.le_refl _)
  go_wp2_with fail
  refine (partAddress_c (by rw [l6]; omega) t5.parts).mono ?_
  rintro e w7 ⟨rfl, t6⟩
  rw [cut_zero_all ys (by omega) (Nat.le_refl _) 4 (by omega), show 24 + 4 = 28 from rfl]
  obtain ⟨ti, hti⟩ : ∃ ti, ti = getV (cutL ys 24 28) true := ⟨_, rfl⟩
  rw [← hti]
  have Hti := Lib.hid hti
  clear hti
  rw [l6, cut_cut ys (by omega) (Nat.le_refl _) 4 (by omega), show 24 + 4 = 28 from rfl] at t6
  have o5 := ((((t1.only.trans t2.only).trans t3.only).trans t4.only).trans t5.only).trans t6.only
  have hR5 := hR1.only o5 hRP
  have G5 : Grew w w7 := o5.grew G1 (by have := g0.size; omega)
  have hh := t6.kept _ _ (t5.kept _ _ (t4.kept _ _ (t3.kept _ _ (t2.kept _ _ bh))))
  have hbb := t6.kept _ _ (t5.kept _ _ (t4.kept _ _ bb))
  have hbd := t6.kept _ _ bd
  clear o5 hR1 G1 t1 t2 t3 t4 t5 t6 bh bb bd hP hRP l2 l3 l4 l5 l6
  go_upto_region 6 with fail
  have hR6 := hR5.alloc (.cells #[.int .i64 op, .slice pb 6 cb, .int .u32 si, .slice pd 6 cd, .int .u32 ti] 34)
  have hh6 := hh.grew ((Grew.refl w7).alloc (.cells #[.int .i64 op, .slice pb 6 cb, .int .u32 si, .slice pd 6 cd, .int .u32 ti] 34))
  have hbb6 := hbb.grew ((Grew.refl w7).alloc (.cells #[.int .i64 op, .slice pb 6 cb, .int .u32 si, .slice pd 6 cd, .int .u32 ti] 34))
  have hbd6 := hbd.grew ((Grew.refl w7).alloc (.cells #[.int .i64 op, .slice pb 6 cb, .int .u32 si, .slice pd 6 cd, .int .u32 ti] 34))
  have hRl := hR5.lt
  have hD : Blk (w7.alloc (.cells #[.int .i64 op, .slice pb 6 cb, .int .u32 si, .slice pd 6 cd, .int .u32 ti] 34)) w7.heap.size #[.int .i64 op, .slice pb 6 cb, .int .u32 si, .slice pd 6 cd, .int .u32 ti] 34 := Blk.new _ _ _ _ rfl
  have g8 : Grew w7 (w7.alloc (.cells #[.int .i64 op, .slice pb 6 cb, .int .u32 si, .slice pd 6 cd, .int .u32 ti] 34)) := (Grew.refl _).alloc _
  generalize (w7.alloc (.cells #[.int .i64 op, .slice pb 6 cb, .int .u32 si, .slice pd 6 cd, .int .u32 ti] 34)) = w8 at *
  generalize hlD : w7.heap.size = D at *
  have G8 := G5.trans g8
  have hDR : D ≠ R := by omega
  clear hR5 hh hbb hbd G5 g8 hRl
  have HH6 := Lib.hid hh6
  have HB6 := Lib.hid hbb6
  have HD6 := Lib.hid hbd6
  clear hh6 hbb6 hbd6
  go_wp2_with fail
  refine (arpHead_c _).mono ?_
  rintro e w9 ⟨pk, ck, rfl, bk, g9⟩
  have heq := equalB_c w9 (HH6.out.grew g9) bk
  rw [HE.out] at heq
  have HEQ := Lib.hid heq
  clear heq bk
  have hD9 := hD.grew g9
  have hR9 := hR6.grew g9
  have G9 := G8.trans g9
  have q0 := hD9.cell 0
  have q1 := hD9.cell 1
  have q2 := hD9.cell 2
  have q3 := hD9.cell 3
  have q4 := hD9.cell 4
  go_wp2_with fail
  refine HEQ.out.mono ?_
  rintro e w10 ⟨rfl, h10⟩
  obtain rfl := h10.symm
  go_wp2_with fail
  refine (isOp_c op true (by rw [Hop.out]; exact HO.out) _).mono ?_
  rintro e w11 ⟨rfl, h11⟩
  obtain rfl := h11.symm
  have f0 := hR9.free 0
  have f1 := hR9.free 1
  have f2 := hR9.free 2
  have f3 := hR9.free 3
  have f4 := hR9.free 4
  have y0 := hR9.cell 0
  have y1 := hR9.cell 1
  have y2 := hR9.cell 2
  have y3 := hR9.cell 3
  have y4 := hR9.cell 4
  go_wp2_with fail
  have E := (((((hR9.set (o := 0) (.int .i64 op)).set (o := 1) (.slice pb 6 cb)).set (o := 2) (.int .u32 si)).set (o := 3) (.slice pd 6 cd)).set (o := 4) (.int .u32 ti))
  have K := (((((BufsKept.box (o := 0) hR9 (by simp [noU8]) (.int .i64 op)).trans (BufsKept.box (o := 1) (hR9.set (o := 0) (.int .i64 op)) (by simp [noU8]) (.slice pb 6 cb))).trans (BufsKept.box (o := 2) ((hR9.set (o := 0) (.int .i64 op)).set (o := 1) (.slice pb 6 cb)) (by simp [noU8]) (.int .u32 si))).trans (BufsKept.box (o := 3) (((hR9.set (o := 0) (.int .i64 op)).set (o := 1) (.slice pb 6 cb)).set (o := 2) (.int .u32 si)) (by simp [noU8]) (.slice pd 6 cd))).trans (BufsKept.box (o := 4) ((((hR9.set (o := 0) (.int .i64 op)).set (o := 1) (.slice pb 6 cb)).set (o := 2) (.int .u32 si)).set (o := 3) (.slice pd 6 cd)) (by simp [noU8]) (.int .u32 ti)))
  have GE := (((((G9.setCell (b := R) (o := 0) (by have := g0.size; omega) (.int .i64 op)).setCell (b := R) (o := 1) (by have := g0.size; omega) (.slice pb 6 cb)).setCell (b := R) (o := 2) (by have := g0.size; omega) (.int .u32 si)).setCell (b := R) (o := 3) (by have := g0.size; omega) (.slice pd 6 cd)).setCell (b := R) (o := 4) (by have := g0.size; omega) (.int .u32 ti))
  have z0 := E.cell 0
  have z1 := E.cell 1
  have z2 := E.cell 2
  have z3 := E.cell 3
  have z4 := E.cell 4
  have hT := HT.out
  rw [← Hop.out, ← Hsi.out, ← Hti.out] at hT
  have hfr := Ar.of (K _ _ (HB6.out.grew g9)) (K _ _ (HD6.out.grew g9)) hT.1 hT.2.1 hT.2.2
  rw [Hop.out, Hsi.out, Hti.out] at hfr
  exact bodyPost_ret (v := .tuple #[.agg #[.int .i64 op, .slice pb 6 cb, .int .u32 si, .slice pd 6 cd, .int .u32 ti], .nilIface]) (by simp [results, Tryd.results27, go_sem, z0, z1, z2, z3, z4]) rfl ⟨_, rfl, by rw [Hop.out, Hsi.out, Hti.out]; rw [Hop.out, Hsi.out, Hti.out] at K; exact hfr, GE⟩
set_option maxHeartbeats 2000000 in
theorem message_op (a : Option Addr) (n c : Nat) (xs : List Int) (hs : ¬ ((n : Int) < 28)) (hE : decide (cutL xs 0 6 = headL) = true) (hO : decide ((arOf xs).op = 1 ∨ (arOf xs).op = 2) = false) {w : World} {a0 a1 a2 : Addr} (sn : Sen w a0 a1 a2) (hb : Buf w (.slice a n c) xs) :
    Calls Tryd.prog 27 #[.slice a n c] w fun e w' => e = .returned (.tuple #[.agg #[.int .i64 0, .slice none 0 0, .int .u32 0, .slice none 0 0, .int .u32 0], rsV ⟨#[109, 101, 115, 115, 97, 103, 101]⟩ n a2]) ∧ Grew w w' := by
  have hn := hb.lenEq.1
  have hok := hb.ok
  obtain ⟨ac, cc, hcut, x1, x2, hrun, x3⟩ := hb.run_cut (lo := 0) (hi := 28) (by omega) (by omega)
  clear x1 x2 x3
  have hrun : ∀ w', (Instr.sliceAt 22 (.slice a n c) none (some (.int .i64 28)) none).run Tryd.prog w' = .ok (.slice ac 28 cc) w' := hrun rfl .i64
  have lx : (cutL xs 0 28).length = 28 := cutL_length (by omega) (by omega)
  have hA : arOf xs = arOf (cutL xs 0 28) := by
    unfold arOf
    simp only [cutL_cut0 xs (show 8 ≤ 28 by omega), cutL_cut0 xs (show 14 ≤ 28 by omega), cutL_cut0 xs (show 18 ≤ 28 by omega), cutL_cut0 xs (show 24 ≤ 28 by omega), cutL_cut0 xs (show 28 ≤ 28 by omega)]
  rw [← cutL_cut0 xs (show 6 ≤ 28 by omega)] at hE
  skip
  rw [hA] at hO
  have hok' := hok.cut 0 28
  generalize cutL xs 0 28 = ys at *
  have HP := Lib.hid (fun w' (g : Grew w w') => partsOf_c (v := .slice ac 28 cc) (xs := ys) (by rw [lx]; omega) (hcut.grew g))
  have hT : intI (getV (cutL ys 6 8) true) ∧ u32I (getV (cutL ys 14 18) true) ∧ u32I (getV (cutL ys 24 28) true) := by
    have h1 := getG_lt (hok'.cut 6 8) true (n := 2) (cutL_length (by omega) (by omega)) (by omega)
    have h2 := getG_lt (hok'.cut 14 18) true (n := 4) (cutL_length (by omega) (by omega)) (by omega)
    have h3 := getG_lt (hok'.cut 24 28) true (n := 4) (cutL_length (by omega) (by omega)) (by omega)
    unfold intI u32I; omega
  have HT := Lib.hid hT
  have HE := Lib.hid hE
  have HO := Lib.hid (show decide (getV (cutL ys 6 8) true = 1 ∨ getV (cutL ys 6 8) true = 2) = false from hO)
  clear hO
  replace hcut : Buf w (.slice ac 28 cc) ys := hcut
  have HA := Lib.hid hA
  clear hok hcut hb hn hT hok' hE hA
  go_enter Tryd.func27, Tryd.ntmps27
  go_upto_region 1 with fail
  have hR : Blk (w.alloc (.cells #[.int .i64 0, .slice none 0 0, .int .u32 0, .slice none 0 0, .int .u32 0] 34)) w.heap.size #[.int .i64 0, .slice none 0 0, .int .u32 0, .slice none 0 0, .int .u32 0] 34 := Blk.new _ _ _ _ rfl
  have g0 : Grew w (w.alloc (.cells #[.int .i64 0, .slice none 0 0, .int .u32 0, .slice none 0 0, .int .u32 0] 34)) := (Grew.refl _).alloc _
  generalize (w.alloc (.cells #[.int .i64 0, .slice none 0 0, .int .u32 0, .slice none 0 0, .int .u32 0] 34)) = w0 at *
  generalize hlR : w.heap.size = R at *
  go_upto_region 3 with fail
  go_wp2_with fail
  refine (HP.out _ g0).mono ?_
  rintro e w1 ⟨P, rfl, hPR, hP, g1⟩
  have hRP : R ≠ P := by have := hR.lt; omega
  have hR1 := hR.grew g1
  have G1 := g0.trans g1
  clear hrun
  go_wp2_with fail
  refine (take_c 6 (by omega) hP).mono ?_
  rintro e w2 ⟨ph, ch, rfl, bh, t1⟩
  have l2 : (cutL ys 6 ys.length).length = ys.length - 6 := cutL_length (by omega) (Nat.le_refl _)
  go_wp2_with fail
  refine (partPair_c (by rw [l2]; omega) t1.parts).mono ?_
  rintro e w3 ⟨rfl, t2⟩
  rw [cut_zero_all ys (by omega) (Nat.le_refl _) 2 (by omega), show 6 + 2 = 8 from rfl]
  obtain ⟨op, hop⟩ : ∃ op, op = getV (cutL ys 6 8) true := ⟨_, rfl⟩
  rw [← hop]
  have Hop := Lib.hid hop
  clear hop
  rw [l2, cut_cut ys (by omega) (Nat.le_refl _) 2 (by omega), show 6 + 2 = 8 from rfl] at t2
  have l3 : (cutL ys 8 ys.length).length = ys.length - 8 := cutL_length (by omega) (Nat.le_refl _)
  go_wp2_with fail
  refine (mac_c (by rw [l3]; omega) t2.parts).mono ?_
  rintro e w4 ⟨pb, cb, rfl, bb, t3⟩
  rw [cut_zero_all ys (by omega) (Nat.le_refl _) 6 (by omega), show 8 + 6 = 14 from rfl] at bb
  rw [l3, cut_cut ys (by omega) (Nat.le_refl _) 6 (by omega), show 8 + 6 = 14 from rfl] at t3
  have l4 : (cutL ys 14 ys.length).length = ys.length - 14 := cutL_length (by omega) (Nat.le_refl _)
  go_wp2_with fail
  refine (partAddress_c (by rw [l4]; omega) t3.parts).mono ?_
  rintro e w5 ⟨rfl, t4⟩
  rw [cut_zero_all ys (by omega) (Nat.le_refl _) 4 (by omega), show 14 + 4 = 18 from rfl]
  obtain ⟨si, hsi⟩ : ∃ si, si = getV (cutL ys 14 18) true := ⟨_, rfl⟩
  rw [← hsi]
  have Hsi := Lib.hid hsi
  clear hsi
  rw [l4, cut_cut ys (by omega) (Nat.le_refl _) 4 (by omega), show 14 + 4 = 18 from rfl] at t4
  have l5 : (cutL ys 18 ys.length).length = ys.length - 18 := cutL_length (by omega) (Nat.le_refl _)
  go_wp2_with fail
  refine (mac_c (by rw [l5]; omega) t4.parts).mono ?_
  rintro e w6 ⟨pd, cd, rfl, bd, t5⟩
  rw [cut_zero_all ys (by omega) (Nat.le_refl _) 6 (by omega), show 18 + 6 = 24 from rfl] at bd
  rw [l5, cut_cut ys (by omega) (Nat.le_refl _) 6 (by omega), show 18 + 6 = 24 from rfl] at t5
  have l6 : (cutL ys 24 ys.length).length = ys.length - 24 := cutL_length (by omega) (Nat.le_refl _)
  go_wp2_with fail
  refine (partAddress_c (by rw [l6]; omega) t5.parts).mono ?_
  rintro e w7 ⟨rfl, t6⟩
  rw [cut_zero_all ys (by omega) (Nat.le_refl _) 4 (by omega), show 24 + 4 = 28 from rfl]
  obtain ⟨ti, hti⟩ : ∃ ti, ti = getV (cutL ys 24 28) true := ⟨_, rfl⟩
  rw [← hti]
  have Hti := Lib.hid hti
  clear hti
  rw [l6, cut_cut ys (by omega) (Nat.le_refl _) 4 (by omega), show 24 + 4 = 28 from rfl] at t6
  have o5 := ((((t1.only.trans t2.only).trans t3.only).trans t4.only).trans t5.only).trans t6.only
  have hR5 := hR1.only o5 hRP
  have G5 : Grew w w7 := o5.grew G1 (by have := g0.size; omega)
  have hh := t6.kept _ _ (t5.kept _ _ (t4.kept _ _ (t3.kept _ _ (t2.kept _ _ bh))))
  have hbb := t6.kept _ _ (t5.kept _ _ (t4.kept _ _ bb))
  have hbd := t6.kept _ _ bd
  clear o5 hR1 G1 t1 t2 t3 t4 t5 t6 bh bb bd hP hRP l2 l3 l4 l5 l6
  go_upto_region 6 with fail
  have hR6 := hR5.alloc (.cells #[.int .i64 op, .slice pb 6 cb, .int .u32 si, .slice pd 6 cd, .int .u32 ti] 34)
  have hh6 := hh.grew ((Grew.refl w7).alloc (.cells #[.int .i64 op, .slice pb 6 cb, .int .u32 si, .slice pd 6 cd, .int .u32 ti] 34))
  have hbb6 := hbb.grew ((Grew.refl w7).alloc (.cells #[.int .i64 op, .slice pb 6 cb, .int .u32 si, .slice pd 6 cd, .int .u32 ti] 34))
  have hbd6 := hbd.grew ((Grew.refl w7).alloc (.cells #[.int .i64 op, .slice pb 6 cb, .int .u32 si, .slice pd 6 cd, .int .u32 ti] 34))
  have hRl := hR5.lt
  have hD : Blk (w7.alloc (.cells #[.int .i64 op, .slice pb 6 cb, .int .u32 si, .slice pd 6 cd, .int .u32 ti] 34)) w7.heap.size #[.int .i64 op, .slice pb 6 cb, .int .u32 si, .slice pd 6 cd, .int .u32 ti] 34 := Blk.new _ _ _ _ rfl
  have g8 : Grew w7 (w7.alloc (.cells #[.int .i64 op, .slice pb 6 cb, .int .u32 si, .slice pd 6 cd, .int .u32 ti] 34)) := (Grew.refl _).alloc _
  generalize (w7.alloc (.cells #[.int .i64 op, .slice pb 6 cb, .int .u32 si, .slice pd 6 cd, .int .u32 ti] 34)) = w8 at *
  generalize hlD : w7.heap.size = D at *
  have G8 := G5.trans g8
  have hDR : D ≠ R := by omega
  clear hR5 hh hbb hbd G5 g8 hRl
  have HH6 := Lib.hid hh6
  have HB6 := Lib.hid hbb6
  have HD6 := Lib.hid hbd6
  clear hh6 hbb6 hbd6
  go_wp2_with fail
  refine (arpHead_c _).mono ?_
  rintro e w9 ⟨pk, ck, rfl, bk, g9⟩
  have heq := equalB_c w9 (HH6.out.grew g9) bk
  rw [HE.out] at heq
  have HEQ := Lib.hid heq
  clear heq bk
  have hD9 := hD.grew g9
  have hR9 := hR6.grew g9
  have G9 := G8.trans g9
  have q0 := hD9.cell 0
  have q1 := hD9.cell 1
  have q2 := hD9.cell 2
  have q3 := hD9.cell 3
  have q4 := hD9.cell 4
  go_wp2_with fail
  refine HEQ.out.mono ?_
  rintro e w10 ⟨rfl, h10⟩
  obtain rfl := h10.symm
  go_wp2_with fail
  refine (isOp_c op false (by rw [Hop.out]; exact HO.out) _).mono ?_
  rintro e w11 ⟨rfl, h11⟩
  obtain rfl := h11.symm
  have f0 := hR9.free 0
  have f1 := hR9.free 1
  have f2 := hR9.free 2
  have f3 := hR9.free 3
  have f4 := hR9.free 4
  have y0 := hR9.cell 0
  have y1 := hR9.cell 1
  have y2 := hR9.cell 2
  have y3 := hR9.cell 3
  have y4 := hR9.cell 4
  have sg := (sn.grew G9).c2
  have hne : 2 ≠ R := by rw [← hlR]; exact Nat.ne_of_lt sn.z2
  go_upto_region 7 with fail
  refine wp_region_held_drew (S := fun w' => w'.cell? ⟨2, 0, none⟩ = some (erV a2)) (by kernel_rfl) (by exact sg) (fun hHeld => ?_)
  first
    | (refine wpAnyH_take (i := 0) (v := ?_) rfl (by kernel_rfl) (by kernel_rfl) (by kernel_rfl) (fun _ _ _ h => h) (Or.inl ⟨by rfl, ?_⟩) (by assumption) ?_; rotate_left; (intro wq hSw; (try dsimp only at hSw); go_simp; try with_reducible rfl))
    | (refine wpAnyH_take (i := 0) (v := undef) rfl (by kernel_rfl) (by kernel_rfl) (by kernel_rfl) (fun _ _ _ h => h) (Or.inr ⟨by rfl, rfl⟩) (by assumption) ?_)
  try simp only [List.getElem_toArray, List.getElem_cons_succ, List.getElem_cons_zero, Act.put, List.setIfInBounds_toArray, List.set_cons_zero, List.set_cons_succ]
  first
    | (refine wpAnyH_take (i := 1) (v := ?_) rfl (by kernel_rfl) (by kernel_rfl) (by kernel_rfl) (fun _ _ _ h => h) (Or.inl ⟨by rfl, ?_⟩) (by assumption) ?_; rotate_left; (intro wq hSw; (try dsimp only at hSw); go_simp; try with_reducible rfl))
    | (refine wpAnyH_take (i := 1) (v := undef) rfl (by kernel_rfl) (by kernel_rfl) (by kernel_rfl) (fun _ _ _ h => h) (Or.inr ⟨by rfl, rfl⟩) (by assumption) ?_)
  try simp only [List.getElem_toArray, List.getElem_cons_succ, List.getElem_cons_zero, Act.put, List.setIfInBounds_toArray, List.set_cons_zero, List.set_cons_succ]
  first
    | (refine wpAnyH_take (i := 2) (v := ?_) rfl (by kernel_rfl) (by kernel_rfl) (by kernel_rfl) (fun _ _ _ h => h) (Or.inl ⟨by rfl, ?_⟩) (by assumption) ?_; rotate_left; (intro wq hSw; (try dsimp only at hSw); go_simp; try with_reducible rfl))
    | (refine wpAnyH_take (i := 2) (v := undef) rfl (by kernel_rfl) (by kernel_rfl) (by kernel_rfl) (fun _ _ _ h => h) (Or.inr ⟨by rfl, rfl⟩) (by assumption) ?_)
  try simp only [List.getElem_toArray, List.getElem_cons_succ, List.getElem_cons_zero, Act.put, List.setIfInBounds_toArray, List.set_cons_zero, List.set_cons_succ]
  first
    | (refine wpAnyH_take (i := 3) (v := ?_) rfl (by kernel_rfl) (by kernel_rfl) (by kernel_rfl) (fun _ _ _ h => h) (Or.inl ⟨by rfl, ?_⟩) (by assumption) ?_; rotate_left; (intro wq hSw; (try dsimp only at hSw); go_simp; try with_reducible rfl))
    | (refine wpAnyH_take (i := 3) (v := undef) rfl (by kernel_rfl) (by kernel_rfl) (by kernel_rfl) (fun _ _ _ h => h) (Or.inr ⟨by rfl, rfl⟩) (by assumption) ?_)
  try simp only [List.getElem_toArray, List.getElem_cons_succ, List.getElem_cons_zero, Act.put, List.setIfInBounds_toArray, List.set_cons_zero, List.set_cons_succ]
  first
    | (refine wpAnyH_take (i := 4) (v := ?_) rfl (by kernel_rfl) (by kernel_rfl) (by kernel_rfl) (fun _ _ _ h => h) (Or.inl ⟨by rfl, ?_⟩) (by assumption) ?_; rotate_left; (intro wq hSw; (try dsimp only at hSw); go_simp; try with_reducible rfl))
    | (refine wpAnyH_take (i := 4) (v := undef) rfl (by kernel_rfl) (by kernel_rfl) (by kernel_rfl) (fun _ _ _ h => h) (Or.inr ⟨by rfl, rfl⟩) (by assumption) ?_)
  try simp only [List.getElem_toArray, List.getElem_cons_succ, List.getElem_cons_zero, Act.put, List.setIfInBounds_toArray, List.set_cons_zero, List.set_cons_succ]
  first
    | (refine wpAnyH_take (i := 5) (v := ?_) rfl (by kernel_rfl) (by kernel_rfl) (by kernel_rfl) (fun _ _ _ h => h) (Or.inl ⟨by rfl, ?_⟩) (by assumption) ?_; rotate_left; (intro wq hSw; (try dsimp only at hSw); go_simp; try with_reducible rfl))
    | (refine wpAnyH_take (i := 5) (v := undef) rfl (by kernel_rfl) (by kernel_rfl) (by kernel_rfl) (fun _ _ _ h => h) (Or.inr ⟨by rfl, rfl⟩) (by assumption) ?_)
  try simp only [List.getElem_toArray, List.getElem_cons_succ, List.getElem_cons_zero, Act.put, List.setIfInBounds_toArray, List.set_cons_zero, List.set_cons_succ]
  refine wpAnyH_ready (rs := [6]) (by kernel_rfl) (by simp) ?_
  refine AllReadyH.cons rfl (fun K hK => ?_) AllReadyH.nil
  go_simp
  refine hK.out _ _ (by refine cell_drew ?_; (repeat refine cell_else ?_ hne); exact sg) (fun hHeld => ?_)
  clear hK K
  try simp only [List.getElem_toArray, List.getElem_cons_succ, List.getElem_cons_zero, Act.put, List.setIfInBounds_toArray, List.set_cons_zero, List.set_cons_succ]
  first
    | (refine wpAnyH_take (i := 7) (v := ?_) rfl (by kernel_rfl) (by kernel_rfl) (by kernel_rfl) (fun _ _ _ h => h) (Or.inl ⟨by rfl, ?_⟩) (by assumption) ?_; rotate_left; (intro wq hSw; (try dsimp only at hSw); go_simp; try with_reducible rfl))
    | (refine wpAnyH_take (i := 7) (v := undef) rfl (by kernel_rfl) (by kernel_rfl) (by kernel_rfl) (fun _ _ _ h => h) (Or.inr ⟨by rfl, rfl⟩) (by assumption) ?_)
  try simp only [List.getElem_toArray, List.getElem_cons_succ, List.getElem_cons_zero, Act.put, List.setIfInBounds_toArray, List.set_cons_zero, List.set_cons_succ]
  refine wpAnyH_done (by kernel_rfl) ?_ _
  try simp only [List.getElem_toArray, List.getElem_cons_succ, List.getElem_cons_zero, Act.put, List.setIfInBounds_toArray, List.set_cons_zero, List.set_cons_succ]
  go_wp2_with fail
  have E := (((((hR9.set (o := 0) (.int .i64 0)).set (o := 1) (.slice none 0 0)).set (o := 2) (.int .u32 0)).set (o := 3) (.slice none 0 0)).set (o := 4) (.int .u32 0))
  have GE := (((((G9.setCell (b := R) (o := 0) (by have := g0.size; omega) (.int .i64 0)).setCell (b := R) (o := 1) (by have := g0.size; omega) (.slice none 0 0)).setCell (b := R) (o := 2) (by have := g0.size; omega) (.int .u32 0)).setCell (b := R) (o := 3) (by have := g0.size; omega) (.slice none 0 0)).setCell (b := R) (o := 4) (by have := g0.size; omega) (.int .u32 0))
  have z0 := E.cell 0
  have z1 := E.cell 1
  have z2 := E.cell 2
  have z3 := E.cell 3
  have z4 := E.cell 4
  exact bodyPost_ret (v := .tuple #[.agg #[.int .i64 0, .slice none 0 0, .int .u32 0, .slice none 0 0, .int .u32 0], rsV ⟨#[109, 101, 115, 115, 97, 103, 101]⟩ n a2]) (by simp [results, Tryd.results27, go_sem, z0, z1, z2, z3, z4]) rfl ⟨rfl, GE.drew1⟩
set_option maxHeartbeats 2000000 in
theorem message_head (a : Option Addr) (n c : Nat) (xs : List Int) (hs : ¬ ((n : Int) < 28)) (hE : decide (cutL xs 0 6 = headL) = false) {w : World} {a0 a1 a2 : Addr} (sn : Sen w a0 a1 a2) (hb : Buf w (.slice a n c) xs) :
    Calls Tryd.prog 27 #[.slice a n c] w fun e w' => e = .returned (.tuple #[.agg #[.int .i64 0, .slice none 0 0, .int .u32 0, .slice none 0 0, .int .u32 0], rsV ⟨#[109, 101, 115, 115, 97, 103, 101]⟩ n a2]) ∧ Grew w w' := by
  have hn := hb.lenEq.1
  have hok := hb.ok
  obtain ⟨ac, cc, hcut, x1, x2, hrun, x3⟩ := hb.run_cut (lo := 0) (hi := 28) (by omega) (by omega)
  clear x1 x2 x3
  have hrun : ∀ w', (Instr.sliceAt 22 (.slice a n c) none (some (.int .i64 28)) none).run Tryd.prog w' = .ok (.slice ac 28 cc) w' := hrun rfl .i64
  have lx : (cutL xs 0 28).length = 28 := cutL_length (by omega) (by omega)
  have hA : arOf xs = arOf (cutL xs 0 28) := by
    unfold arOf
    simp only [cutL_cut0 xs (show 8 ≤ 28 by omega), cutL_cut0 xs (show 14 ≤ 28 by omega), cutL_cut0 xs (show 18 ≤ 28 by omega), cutL_cut0 xs (show 24 ≤ 28 by omega), cutL_cut0 xs (show 28 ≤ 28 by omega)]
  rw [← cutL_cut0 xs (show 6 ≤ 28 by omega)] at hE
  skip
  skip
  have hok' := hok.cut 0 28
  generalize cutL xs 0 28 = ys at *
  have HP := Lib.hid (fun w' (g : Grew w w') => partsOf_c (v := .slice ac 28 cc) (xs := ys) (by rw [lx]; omega) (hcut.grew g))
  have hT : intI (getV (cutL ys 6 8) true) ∧ u32I (getV (cutL ys 14 18) true) ∧ u32I (getV (cutL ys 24 28) true) := by
    have h1 := getG_lt (hok'.cut 6 8) true (n := 2) (cutL_length (by omega) (by omega)) (by omega)
    have h2 := getG_lt (hok'.cut 14 18) true (n := 4) (cutL_length (by omega) (by omega)) (by omega)
    have h3 := getG_lt (hok'.cut 24 28) true (n := 4) (cutL_length (by omega) (by omega)) (by omega)
    unfold intI u32I; omega
  have HT := Lib.hid hT
  have HE := Lib.hid hE
  replace hcut : Buf w (.slice ac 28 cc) ys := hcut
  have HA := Lib.hid hA
  clear hok hcut hb hn hT hok' hE hA
  go_enter Tryd.func27, Tryd.ntmps27
  go_upto_region 1 with fail
  have hR : Blk (w.alloc (.cells #[.int .i64 0, .slice none 0 0, .int .u32 0, .slice none 0 0, .int .u32 0] 34)) w.heap.size #[.int .i64 0, .slice none 0 0, .int .u32 0, .slice none 0 0, .int .u32 0] 34 := Blk.new _ _ _ _ rfl
  have g0 : Grew w (w.alloc (.cells #[.int .i64 0, .slice none 0 0, .int .u32 0, .slice none 0 0, .int .u32 0] 34)) := (Grew.refl _).alloc _
  generalize (w.alloc (.cells #[.int .i64 0, .slice none 0 0, .int .u32 0, .slice none 0 0, .int .u32 0] 34)) = w0 at *
  generalize hlR : w.heap.size = R at *
  go_upto_region 3 with fail
  go_wp2_with fail
  refine (HP.out _ g0).mono ?_
  rintro e w1 ⟨P, rfl, hPR, hP, g1⟩
  have hRP : R ≠ P := by have := hR.lt; omega
  have hR1 := hR.grew g1
  have G1 := g0.trans g1
  clear hrun
  go_wp2_with fail
  refine (take_c 6 (by omega) hP).mono ?_
  rintro e w2 ⟨ph, ch, rfl, bh, t1⟩
  have l2 : (cutL ys 6 ys.length).length = ys.length - 6 := cutL_length (by omega) (Nat.le_refl _)
  go_wp2_with fail
  refine (partPair_c (by rw [l2]; omega) t1.parts).mono ?_
  rintro e w3 ⟨rfl, t2⟩
  rw [cut_zero_all ys (by omega) (Nat.le_refl _) 2 (by omega), show 6 + 2 = 8 from rfl]
  obtain ⟨op, hop⟩ : ∃ op, op = getV (cutL ys 6 8) true := ⟨_, rfl⟩
  rw [← hop]
  have Hop := Lib.hid hop
  clear hop
  rw [l2, cut_cut ys (by omega) (Nat.le_refl _) 2 (by omega), show 6 + 2 = 8 from rfl] at t2
  have l3 : (cutL ys 8 ys.length).length = ys.length - 8 := cutL_length (by omega) (Nat.le_refl _)
  go_wp2_with fail
  refine (mac_c (by rw [l3]; omega) t2.parts).mono ?_
  rintro e w4 ⟨pb, cb, rfl, bb, t3⟩
  rw [cut_zero_all ys (by omega) (Nat.le_refl _) 6 (by omega), show 8 + 6 = 14 from rfl] at bb
  rw [l3, cut_cut ys (by omega) (Nat.le_refl _) 6 (by omega), show 8 + 6 = 14 from rfl] at t3
  have l4 : (cutL ys 14 ys.length).length = ys.length - 14 := cutL_length (by omega) (Nat.le_refl _)
  go_wp2_with fail
  refine (partAddress_c (by rw [l4]; omega) t3.parts).mono ?_
  rintro e w5 ⟨rfl, t4⟩
  rw [cut_zero_all ys (by omega) (Nat.le_refl _) 4 (by omega), show 14 + 4 = 18 from rfl]
  obtain ⟨si, hsi⟩ : ∃ si, si = getV (cutL ys 14 18) true := ⟨_, rfl⟩
  rw [← hsi]
  have Hsi := Lib.hid hsi
  clear hsi
  rw [l4, cut_cut ys (by omega) (Nat.le_refl _) 4 (by omega), show 14 + 4 = 18 from rfl] at t4
  have l5 : (cutL ys 18 ys.length).length = ys.length - 18 := cutL_length (by omega) (Nat.le_refl _)
  go_wp2_with fail
  refine (mac_c (by rw [l5]; omega) t4.parts).mono ?_
  rintro e w6 ⟨pd, cd, rfl, bd, t5⟩
  rw [cut_zero_all ys (by omega) (Nat.le_refl _) 6 (by omega), show 18 + 6 = 24 from rfl] at bd
  rw [l5, cut_cut ys (by omega) (Nat.le_refl _) 6 (by omega), show 18 + 6 = 24 from rfl] at t5
  have l6 : (cutL ys 24 ys.length).length = ys.length - 24 := cutL_length (by omega) (Nat.le_refl _)
  go_wp2_with fail
  refine (partAddress_c (by rw [l6]; omega) t5.parts).mono ?_
  rintro e w7 ⟨rfl, t6⟩
  rw [cut_zero_all ys (by omega) (Nat.le_refl _) 4 (by omega), show 24 + 4 = 28 from rfl]
  obtain ⟨ti, hti⟩ : ∃ ti, ti = getV (cutL ys 24 28) true := ⟨_, rfl⟩
  rw [← hti]
  have Hti := Lib.hid hti
  clear hti
  rw [l6, cut_cut ys (by omega) (Nat.le_refl _) 4 (by omega), show 24 + 4 = 28 from rfl] at t6
  have o5 := ((((t1.only.trans t2.only).trans t3.only).trans t4.only).trans t5.only).trans t6.only
  have hR5 := hR1.only o5 hRP
  have G5 : Grew w w7 := o5.grew G1 (by have := g0.size; omega)
  have hh := t6.kept _ _ (t5.kept _ _ (t4.kept _ _ (t3.kept _ _ (t2.kept _ _ bh))))
  have hbb := t6.kept _ _ (t5.kept _ _ (t4.kept _ _ bb))
  have hbd := t6.kept _ _ bd
  clear o5 hR1 G1 t1 t2 t3 t4 t5 t6 bh bb bd hP hRP l2 l3 l4 l5 l6
  go_upto_region 6 with fail
  have hR6 := hR5.alloc (.cells #[.int .i64 op, .slice pb 6 cb, .int .u32 si, .slice pd 6 cd, .int .u32 ti] 34)
  have hh6 := hh.grew ((Grew.refl w7).alloc (.cells #[.int .i64 op, .slice pb 6 cb, .int .u32 si, .slice pd 6 cd, .int .u32 ti] 34))
  have hbb6 := hbb.grew ((Grew.refl w7).alloc (.cells #[.int .i64 op, .slice pb 6 cb, .int .u32 si, .slice pd 6 cd, .int .u32 ti] 34))
  have hbd6 := hbd.grew ((Grew.refl w7).alloc (.cells #[.int .i64 op, .slice pb 6 cb, .int .u32 si, .slice pd 6 cd, .int .u32 ti] 34))
  have hRl := hR5.lt
  have hD : Blk (w7.alloc (.cells #[.int .i64 op, .slice pb 6 cb, .int .u32 si, .slice pd 6 cd, .int .u32 ti] 34)) w7.heap.size #[.int .i64 op, .slice pb 6 cb, .int .u32 si, .slice pd 6 cd, .int .u32 ti] 34 := Blk.new _ _ _ _ rfl
  have g8 : Grew w7 (w7.alloc (.cells #[.int .i64 op, .slice pb 6 cb, .int .u32 si, .slice pd 6 cd, .int .u32 ti] 34)) := (Grew.refl _).alloc _
  generalize (w7.alloc (.cells #[.int .i64 op, .slice pb 6 cb, .int .u32 si, .slice pd 6 cd, .int .u32 ti] 34)) = w8 at *
  generalize hlD : w7.heap.size = D at *
  have G8 := G5.trans g8
  have hDR : D ≠ R := by omega
  clear hR5 hh hbb hbd G5 g8 hRl
  have HH6 := Lib.hid hh6
  have HB6 := Lib.hid hbb6
  have HD6 := Lib.hid hbd6
  clear hh6 hbb6 hbd6
  go_wp2_with fail
  refine (arpHead_c _).mono ?_
  rintro e w9 ⟨pk, ck, rfl, bk, g9⟩
  have heq := equalB_c w9 (HH6.out.grew g9) bk
  rw [HE.out] at heq
  have HEQ := Lib.hid heq
  clear heq bk
  have hD9 := hD.grew g9
  have hR9 := hR6.grew g9
  have G9 := G8.trans g9
  have q0 := hD9.cell 0
  have q1 := hD9.cell 1
  have q2 := hD9.cell 2
  have q3 := hD9.cell 3
  have q4 := hD9.cell 4
  go_wp2_with fail
  refine HEQ.out.mono ?_
  rintro e w10 ⟨rfl, h10⟩
  obtain rfl := h10.symm
  have f0 := hR9.free 0
  have f1 := hR9.free 1
  have f2 := hR9.free 2
  have f3 := hR9.free 3
  have f4 := hR9.free 4
  have y0 := hR9.cell 0
  have y1 := hR9.cell 1
  have y2 := hR9.cell 2
  have y3 := hR9.cell 3
  have y4 := hR9.cell 4
  have sg := (sn.grew G9).c2
  have hne : 2 ≠ R := by rw [← hlR]; exact Nat.ne_of_lt sn.z2
  go_upto_region 7 with fail
  refine wp_region_held_drew (S := fun w' => w'.cell? ⟨2, 0, none⟩ = some (erV a2)) (by kernel_rfl) (by exact sg) (fun hHeld => ?_)
  first
    | (refine wpAnyH_take (i := 0) (v := ?_) rfl (by kernel_rfl) (by kernel_rfl) (by kernel_rfl) (fun _ _ _ h => h) (Or.inl ⟨by rfl, ?_⟩) (by assumption) ?_; rotate_left; (intro wq hSw; (try dsimp only at hSw); go_simp; try with_reducible rfl))
    | (refine wpAnyH_take (i := 0) (v := undef) rfl (by kernel_rfl) (by kernel_rfl) (by kernel_rfl) (fun _ _ _ h => h) (Or.inr ⟨by rfl, rfl⟩) (by assumption) ?_)
  try simp only [List.getElem_toArray, List.getElem_cons_succ, List.getElem_cons_zero, Act.put, List.setIfInBounds_toArray, List.set_cons_zero, List.set_cons_succ]
  first
    | (refine wpAnyH_take (i := 1) (v := ?_) rfl (by kernel_rfl) (by kernel_rfl) (by kernel_rfl) (fun _ _ _ h => h) (Or.inl ⟨by rfl, ?_⟩) (by assumption) ?_; rotate_left; (intro wq hSw; (try dsimp only at hSw); go_simp; try with_reducible rfl))
    | (refine wpAnyH_take (i := 1) (v := undef) rfl (by kernel_rfl) (by kernel_rfl) (by kernel_rfl) (fun _ _ _ h => h) (Or.inr ⟨by rfl, rfl⟩) (by assumption) ?_)
  try simp only [List.getElem_toArray, List.getElem_cons_succ, List.getElem_cons_zero, Act.put, List.setIfInBounds_toArray, List.set_cons_zero, List.set_cons_succ]
  first
    | (refine wpAnyH_take (i := 2) (v := ?_) rfl (by kernel_rfl) (by kernel_rfl) (by kernel_rfl) (fun _ _ _ h => h) (Or.inl ⟨by rfl, ?_⟩) (by assumption) ?_; rotate_left; (intro wq hSw; (try dsimp only at hSw); go_simp; try with_reducible rfl))
    | (refine wpAnyH_take (i := 2) (v := undef) rfl (by kernel_rfl) (by kernel_rfl) (by kernel_rfl) (fun _ _ _ h => h) (Or.inr ⟨by rfl, rfl⟩) (by assumption) ?_)
  try simp only [List.getElem_toArray, List.getElem_cons_succ, List.getElem_cons_zero, Act.put, List.setIfInBounds_toArray, List.set_cons_zero, List.set_cons_succ]
  first
    | (refine wpAnyH_take (i := 3) (v := ?_) rfl (by kernel_rfl) (by kernel_rfl) (by kernel_rfl) (fun _ _ _ h => h) (Or.inl ⟨by rfl, ?_⟩) (by assumption) ?_; rotate_left; (intro wq hSw; (try dsimp only at hSw); go_simp; try with_reducible rfl))
    | (refine wpAnyH_take (i := 3) (v := undef) rfl (by kernel_rfl) (by kernel_rfl) (by kernel_rfl) (fun _ _ _ h => h) (Or.inr ⟨by rfl, rfl⟩) (by assumption) ?_)
  try simp only [List.getElem_toArray, List.getElem_cons_succ, List.getElem_cons_zero, Act.put, List.setIfInBounds_toArray, List.set_cons_zero, List.set_cons_succ]
  first
    | (refine wpAnyH_take (i := 4) (v := ?_) rfl (by kernel_rfl) (by kernel_rfl) (by kernel_rfl) (fun _ _ _ h => h) (Or.inl ⟨by rfl, ?_⟩) (by assumption) ?_; rotate_left; (intro wq hSw; (try dsimp only at hSw); go_simp; try with_reducible rfl))
    | (refine wpAnyH_take (i := 4) (v := undef) rfl (by kernel_rfl) (by kernel_rfl) (by kernel_rfl) (fun _ _ _ h => h) (Or.inr ⟨by rfl, rfl⟩) (by assumption) ?_)
  try simp only [List.getElem_toArray, List.getElem_cons_succ, List.getElem_cons_zero, Act.put, List.setIfInBounds_toArray, List.set_cons_zero, List.set_cons_succ]
  first
    | (refine wpAnyH_take (i := 5) (v := ?_) rfl (by kernel_rfl) (by kernel_rfl) (by kernel_rfl) (fun _ _ _ h => h) (Or.inl ⟨by rfl, ?_⟩) (by assumption) ?_; rotate_left; (intro wq hSw; (try dsimp only at hSw); go_simp; try with_reducible rfl))
    | (refine wpAnyH_take (i := 5) (v := undef) rfl (by kernel_rfl) (by kernel_rfl) (by kernel_rfl) (fun _ _ _ h => h) (Or.inr ⟨by rfl, rfl⟩) (by assumption) ?_)
  try simp only [List.getElem_toArray, List.getElem_cons_succ, List.getElem_cons_zero, Act.put, List.setIfInBounds_toArray, List.set_cons_zero, List.set_cons_succ]
  refine wpAnyH_ready (rs := [6]) (by kernel_rfl) (by simp) ?_
  refine AllReadyH.cons rfl (fun K hK => ?_) AllReadyH.nil
  go_simp
  refine hK.out _ _ (by refine cell_drew ?_; (repeat refine cell_else ?_ hne); exact sg) (fun hHeld => ?_)
  clear hK K
  try simp only [List.getElem_toArray, List.getElem_cons_succ, List.getElem_cons_zero, Act.put, List.setIfInBounds_toArray, List.set_cons_zero, List.set_cons_succ]
  first
    | (refine wpAnyH_take (i := 7) (v := ?_) rfl (by kernel_rfl) (by kernel_rfl) (by kernel_rfl) (fun _ _ _ h => h) (Or.inl ⟨by rfl, ?_⟩) (by assumption) ?_; rotate_left; (intro wq hSw; (try dsimp only at hSw); go_simp; try with_reducible rfl))
    | (refine wpAnyH_take (i := 7) (v := undef) rfl (by kernel_rfl) (by kernel_rfl) (by kernel_rfl) (fun _ _ _ h => h) (Or.inr ⟨by rfl, rfl⟩) (by assumption) ?_)
  try simp only [List.getElem_toArray, List.getElem_cons_succ, List.getElem_cons_zero, Act.put, List.setIfInBounds_toArray, List.set_cons_zero, List.set_cons_succ]
  refine wpAnyH_done (by kernel_rfl) ?_ _
  try simp only [List.getElem_toArray, List.getElem_cons_succ, List.getElem_cons_zero, Act.put, List.setIfInBounds_toArray, List.set_cons_zero, List.set_cons_succ]
  go_wp2_with fail
  have E := (((((hR9.set (o := 0) (.int .i64 0)).set (o := 1) (.slice none 0 0)).set (o := 2) (.int .u32 0)).set (o := 3) (.slice none 0 0)).set (o := 4) (.int .u32 0))
  have GE := (((((G9.setCell (b := R) (o := 0) (by have := g0.size; omega) (.int .i64 0)).setCell (b := R) (o := 1) (by have := g0.size; omega) (.slice none 0 0)).setCell (b := R) (o := 2) (by have := g0.size; omega) (.int .u32 0)).setCell (b := R) (o := 3) (by have := g0.size; omega) (.slice none 0 0)).setCell (b := R) (o := 4) (by have := g0.size; omega) (.int .u32 0))
  have z0 := E.cell 0
  have z1 := E.cell 1
  have z2 := E.cell 2
  have z3 := E.cell 3
  have z4 := E.cell 4
  exact bodyPost_ret (v := .tuple #[.agg #[.int .i64 0, .slice none 0 0, .int .u32 0, .slice none 0 0, .int .u32 0], rsV ⟨#[109, 101, 115, 115, 97, 103, 101]⟩ n a2]) (by simp [results, Tryd.results27, go_sem, z0, z1, z2, z3, z4]) rfl ⟨rfl, GE.drew1⟩
set_option maxHeartbeats 1000000 in
theorem getA_with {v E : Value} {f : AR} (q : Int) {w : World}
    (HF : ∀ w', Grew w w' → Calls Tryd.prog 27 #[v] w' fun e w'' => ∃ u, e = .returned (.tuple #[u, E]) ∧ Ar w'' u f ∧ Grew w' w'')
    (HNb : ∀ w', Grew w w' → Calls Tryd.prog 23 #[E] w' fun e w'' => e = .returned (.int .i64 q) ∧ Grew w' w'') :
    Calls Tryd.prog 12 #[v] w fun e w' => ∃ u, e = .returned (.tuple #[u, .int .i64 q]) ∧ Ar w' u f ∧ Grew w w' := by
  replace HF := Lib.hid HF
  have HNB := Lib.hid HNb
  clear HNb
  go_enter Tryd.func12, Tryd.ntmps12
  go_upto_region 1 with fail
  have hR : Blk (w.alloc (.cells #[.int .i64 0, .slice none 0 0, .int .u32 0, .slice none 0 0, .int .u32 0] 34)) w.heap.size #[.int .i64 0, .slice none 0 0, .int .u32 0, .slice none 0 0, .int .u32 0] 34 := Blk.new _ _ _ _ rfl
  have g0 : Grew w (w.alloc (.cells #[.int .i64 0, .slice none 0 0, .int .u32 0, .slice none 0 0, .int .u32 0] 34)) := (Grew.refl _).alloc _
  generalize (w.alloc (.cells #[.int .i64 0, .slice none 0 0, .int .u32 0, .slice none 0 0, .int .u32 0] 34)) = w0 at *
  generalize hlR : w.heap.size = R at *
  go_wp2_with fail
  refine (HF.out _ g0).mono ?_
  rintro e w1 ⟨u, rfl, hu, g1⟩
  have HU := Lib.hid hu
  obtain ⟨p1, k1, p2, k2, rfl, b1, b2⟩ := hu.shape
  have hR1 := hR.grew g1
  have G1 := g0.trans g1
  have hRl := hR1.lt
  clear hu b1 b2
  go_upto_region 2 with fail
  have hR2 := hR1.alloc (.cells #[.int .i64 f.op, .slice p1 f.sm.length k1, .int .u32 f.si, .slice p2 f.tm.length k2, .int .u32 f.ti] 34)
  have hDR : w1.heap.size ≠ R := Nat.ne_of_gt hRl
  have hU2 := HU.out.grew ((Grew.refl w1).alloc (.cells #[.int .i64 f.op, .slice p1 f.sm.length k1, .int .u32 f.si, .slice p2 f.tm.length k2, .int .u32 f.ti] 34))
  have hD2 : Blk (w1.alloc (.cells #[.int .i64 f.op, .slice p1 f.sm.length k1, .int .u32 f.si, .slice p2 f.tm.length k2, .int .u32 f.ti] 34)) w1.heap.size #[.int .i64 f.op, .slice p1 f.sm.length k1, .int .u32 f.si, .slice p2 f.tm.length k2, .int .u32 f.ti] 34 := Blk.new _ _ _ _ rfl
  have g2 : Grew w1 (w1.alloc (.cells #[.int .i64 f.op, .slice p1 f.sm.length k1, .int .u32 f.si, .slice p2 f.tm.length k2, .int .u32 f.ti] 34)) := (Grew.refl _).alloc _
  generalize (w1.alloc (.cells #[.int .i64 f.op, .slice p1 f.sm.length k1, .int .u32 f.si, .slice p2 f.tm.length k2, .int .u32 f.ti] 34)) = w2 at *
  generalize hlD : w1.heap.size = D at *
  have G2 := G1.trans g2
  have HU2 := Lib.hid (hU2.grew ((Grew.refl w2).drew1))
  have G2q := G2.drew1
  have hR2q := hR2.drew
  have hD2q := hD2.drew
  clear hU2 G2 hR2 hD2 g2
  refine wp_region_held_drew (S := fun w' => Blk w' D #[.int .i64 f.op, .slice p1 f.sm.length k1, .int .u32 f.si, .slice p2 f.tm.length k2, .int .u32 f.ti] 34) (by kernel_rfl) (by exact hD2q) (fun hHeld => ?_)
  replace hHeld : Blk w2.drew D #[.int .i64 f.op, .slice p1 f.sm.length k1, .int .u32 f.si, .slice p2 f.tm.length k2, .int .u32 f.ti] 34 := hHeld
  generalize w2.drew = wq0 at *
  refine wpAnyH_take (i := 0) (v := ?_) rfl (by kernel_rfl) (by kernel_rfl) (by kernel_rfl) (fun _ _ _ h => h) (Or.inl ⟨by rfl, ?_⟩) hHeld ?_
  rotate_left
  · intro wq hSw
    replace hSw : Blk wq D #[.int .i64 f.op, .slice p1 f.sm.length k1, .int .u32 f.si, .slice p2 f.tm.length k2, .int .u32 f.ti] 34 := hSw
    have y0 := hSw.cell 0
    have y1 := hSw.cell 1
    have y2 := hSw.cell 2
    have y3 := hSw.cell 3
    have y4 := hSw.cell 4
    go_simp
    try with_reducible rfl
  try simp only [List.getElem_toArray, List.getElem_cons_succ, List.getElem_cons_zero, Act.put, List.setIfInBounds_toArray, List.set_cons_zero, List.set_cons_succ]
  refine wpAnyH_take (i := 1) (v := ?_) rfl (by kernel_rfl) (by kernel_rfl) (by kernel_rfl) (fun _ _ _ h => h) (Or.inl ⟨by rfl, ?_⟩) hHeld ?_
  rotate_left
  · intro wq hSw
    replace hSw : Blk wq D #[.int .i64 f.op, .slice p1 f.sm.length k1, .int .u32 f.si, .slice p2 f.tm.length k2, .int .u32 f.ti] 34 := hSw
    go_simp
    try with_reducible rfl
  try simp only [List.getElem_toArray, List.getElem_cons_succ, List.getElem_cons_zero, Act.put, List.setIfInBounds_toArray, List.set_cons_zero, List.set_cons_succ]
  refine wpAnyH_ready (rs := [2]) (by kernel_rfl) (by simp) ?_
  refine AllReadyH.cons rfl (fun K hK => ?_) AllReadyH.nil
  go_simp
  refine (HNB.out _ G2q).mono ?_
  rintro e w3 ⟨rfl, g3⟩
  have G3 := G2q.trans g3
  have hR3 := hR2q.grew g3
  have hD3 := hD2q.grew g3
  have b3 := g3
  have f0 := hR3.free 0
  have f1 := hR3.free 1
  have f2 := hR3.free 2
  have f3 := hR3.free 3
  have f4 := hR3.free 4
  have x0 := hR3.cell 0
  have x1 := hR3.cell 1
  have x2 := hR3.cell 2
  have x3 := hR3.cell 3
  have x4 := hR3.cell 4
  refine hK.out _ _ (hD3) (fun hHeld => ?_)
  clear hK K
  try simp only [List.getElem_toArray, List.getElem_cons_succ, List.getElem_cons_zero, Act.put, List.setIfInBounds_toArray, List.set_cons_zero, List.set_cons_succ]
  refine wpAnyH_ready (rs := [3]) (by kernel_rfl) (by simp) ?_
  refine AllReadyH.cons rfl (fun K hK => ?_) AllReadyH.nil
  go_simp
  refine hK.out _ _ ((((((hD3.other (c := R) (o := 0) hDR (.int .i64 f.op)).other (c := R) (o := 1) hDR (.slice p1 f.sm.length k1)).other (c := R) (o := 2) hDR (.int .u32 f.si)).other (c := R) (o := 3) hDR (.slice p2 f.tm.length k2)).other (c := R) (o := 4) hDR (.int .u32 f.ti))) (fun hHeld => ?_)
  clear hK K
  try simp only [List.getElem_toArray, List.getElem_cons_succ, List.getElem_cons_zero, Act.put, List.setIfInBounds_toArray, List.set_cons_zero, List.set_cons_succ]
  refine wpAnyH_ready (rs := [4]) (by kernel_rfl) (by simp) ?_
  refine AllReadyH.cons rfl (fun K hK => ?_) AllReadyH.nil
  go_simp
  refine hK.out _ _ hHeld (fun hHeld => ?_)
  clear hK K
  try simp only [List.getElem_toArray, List.getElem_cons_succ, List.getElem_cons_zero, Act.put, List.setIfInBounds_toArray, List.set_cons_zero, List.set_cons_succ]
  refine wpAnyH_done (by kernel_rfl) ?_ _
  try simp only [List.getElem_toArray, List.getElem_cons_succ, List.getElem_cons_zero, Act.put, List.setIfInBounds_toArray, List.set_cons_zero, List.set_cons_succ]
  go_wp2_with fail
  have EB := (((((hR3.set (o := 0) (.int .i64 f.op)).set (o := 1) (.slice p1 f.sm.length k1)).set (o := 2) (.int .u32 f.si)).set (o := 3) (.slice p2 f.tm.length k2)).set (o := 4) (.int .u32 f.ti))
  have KK := (((((BufsKept.box (o := 0) hR3 (by simp [noU8]) (.int .i64 f.op)).trans (BufsKept.box (o := 1) (hR3.set (o := 0) (.int .i64 f.op)) (by simp [noU8]) (.slice p1 f.sm.length k1))).trans (BufsKept.box (o := 2) ((hR3.set (o := 0) (.int .i64 f.op)).set (o := 1) (.slice p1 f.sm.length k1)) (by simp [noU8]) (.int .u32 f.si))).trans (BufsKept.box (o := 3) (((hR3.set (o := 0) (.int .i64 f.op)).set (o := 1) (.slice p1 f.sm.length k1)).set (o := 2) (.int .u32 f.si)) (by simp [noU8]) (.slice p2 f.tm.length k2))).trans (BufsKept.box (o := 4) ((((hR3.set (o := 0) (.int .i64 f.op)).set (o := 1) (.slice p1 f.sm.length k1)).set (o := 2) (.int .u32 f.si)).set (o := 3) (.slice p2 f.tm.length k2)) (by simp [noU8]) (.int .u32 f.ti)))
  have GE := (((((G3.setCell (b := R) (o := 0) (by have := g0.size; omega) (.int .i64 f.op)).setCell (b := R) (o := 1) (by have := g0.size; omega) (.slice p1 f.sm.length k1)).setCell (b := R) (o := 2) (by have := g0.size; omega) (.int .u32 f.si)).setCell (b := R) (o := 3) (by have := g0.size; omega) (.slice p2 f.tm.length k2)).setCell (b := R) (o := 4) (by have := g0.size; omega) (.int .u32 f.ti))
  have z0 := EB.cell 0
  have z1 := EB.cell 1
  have z2 := EB.cell 2
  have z3 := EB.cell 3
  have z4 := EB.cell 4
  exact bodyPost_ret (v := .tuple #[.agg #[.int .i64 f.op, .slice p1 f.sm.length k1, .int .u32 f.si, .slice p2 f.tm.length k2, .int .u32 f.ti], .int .i64 q]) (by simp [results, Tryd.results12, go_sem, z0, z1, z2, z3, z4]) rfl ⟨_, rfl, ((HU2.out.grew b3).kept KK), GE⟩
theorem Get_c {v : Value} {xs : List Int} {w : World} {a0 a1 a2 : Addr} (sn : Sen w a0 a1 a2) (hb : Buf w v xs) :
    Calls Tryd.prog 9 #[v] w fun e w' => ∃ u, e = .returned (.tuple #[u, .int .i64 (getFE xs)]) ∧ Fr w' u (getF xs) ∧ Grew w w' := by
  obtain ⟨a, c, rfl, _, _⟩ := hb.shape
  unfold getF getFE
  by_cases h1 : xs.length < 14
  · rw [if_pos h1, if_pos (Or.inl h1)]
    exact get_with 160 (fun w' g => (frame_short a xs.length c (by omega) (sn.grew g)).mono fun _ _ ⟨h1, h2⟩ => ⟨_, h1, Fr.zero _, h2⟩) (fun w' g => number_short _ _ (sn.grew g))
  · rw [if_neg h1]
    by_cases h2 : 1514 < xs.length
    · rw [if_pos h2, if_pos (Or.inr h2)]
      exact get_with 161 (fun w' g => (frame_long a xs.length c (by omega) (by omega) (sn.grew g)).mono fun _ _ ⟨h1, h2⟩ => ⟨_, h1, Fr.zero _, h2⟩) (fun w' g => number_else _ _ _ (sn.grew g) (sn.grew g).b1 sn.n1)
    · rw [if_neg h2, if_neg (by omega)]
      exact get_with 0 (fun w' g => frame_ok a xs.length c xs (by omega) (by omega) (hb.grew g)) (fun w' g => number_nil (sn.grew g))
theorem GetArp_c {v : Value} {xs : List Int} {w : World} {a0 a1 a2 : Addr} (sn : Sen w a0 a1 a2) (hb : Buf w v xs) :
    Calls Tryd.prog 12 #[v] w fun e w' => ∃ u, e = .returned (.tuple #[u, .int .i64 (getAE xs)]) ∧ Ar w' u (getA xs) ∧ Grew w w' := by
  obtain ⟨a, c, rfl, _, _⟩ := hb.shape
  unfold getA getAE
  by_cases h1 : xs.length < 28
  · rw [if_pos h1, if_pos (Or.inl h1)]
    exact getA_with 160 (fun w' g => (message_short a xs.length c (by omega) (sn.grew g)).mono fun _ _ ⟨h1, h2⟩ => ⟨_, h1, Ar.zero _, h2⟩) (fun w' g => number_short _ _ (sn.grew g))
  · rw [if_neg h1]
    cases hE : decide (cutL xs 0 6 = headL)
    · have hi : isA xs = false := by unfold isA; rw [hE]; rfl
      rw [hi, if_pos (Or.inr rfl)]
      exact getA_with 161 (fun w' g => (message_head a xs.length c xs (by omega) hE (sn.grew g) (hb.grew g)).mono fun _ _ ⟨h1, h2⟩ => ⟨_, h1, Ar.zero _, h2⟩) (fun w' g => number_else _ _ _ (sn.grew g) (sn.grew g).b2 sn.n2)
    · cases hO : decide ((arOf xs).op = 1 ∨ (arOf xs).op = 2)
      · have hi : isA xs = false := by unfold isA; rw [hE, hO]; rfl
        rw [hi, if_pos (Or.inr rfl)]
        exact getA_with 161 (fun w' g => (message_op a xs.length c xs (by omega) hE hO (sn.grew g) (hb.grew g)).mono fun _ _ ⟨h1, h2⟩ => ⟨_, h1, Ar.zero _, h2⟩) (fun w' g => number_else _ _ _ (sn.grew g) (sn.grew g).b2 sn.n2)
      · have hi : isA xs = true := by unfold isA; rw [hE, hO]; rfl
        rw [hi, if_pos rfl, if_neg (by simp; omega)]
        exact getA_with 0 (fun w' g => message_ok a xs.length c xs (by omega) hE hO (sn.grew g) (hb.grew g)) (fun w' g => number_nil (sn.grew g))
end Go.Proofs.YtolfaelalmmefaaDoor
