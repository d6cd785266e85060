/-
  The statement EtherBack: that frames and messages are there and back. For every frame, message, and bytes behind. Conditions: none but those of the statement's row (the package variables as the text lays them).
-/
import Derived.Test.YtolfaelalmmefaaDoorEtK
import Derived.Test.YtolfaelalmmefaaDoorEtL
import Derived.Test.YtolfaelalmmefaaDoorCards
import Derived.Test.YtolfaelalmmefaaDoorTie
import Derived.SevenTiedAt
set_option maxRecDepth 4000
set_option linter.unusedVariables false
set_option linter.unusedSimpArgs false
namespace Go.Proofs.YtolfaelalmmefaaDoor.etherBack
open Go.ChangeShapes Go.WideShapes Go.ChangeAt Go.RowKit

theorem walk_far {f : FR} {p1 : Option Addr} {k1 : Nat} {p2 : Option Addr} {k2 : Nat} {p3 : Option Addr} {k3 : Nat} {h : AR} {hp1 : Option Addr} {hk1 : Nat} {hp2 : Option Addr} {hk2 : Nat} (a : Option Addr) (n c : Nat) {W : World} {a0 a1 a2 : Addr} (sn : Sen W a0 a1 a2) (hh : ((3000 : Int) < (f.x.length : Nat)) ∨ (¬ ((3000 : Int) < (f.x.length : Nat)) ∧ (100 : Int) < (n : Nat))) :
    Calls Tryd.prog 6 #[.agg #[.slice p1 f.d.length k1, .slice p2 f.s.length k2, .int .i64 f.t, .slice p3 f.x.length k3], .agg #[.int .i64 h.op, .slice hp1 h.sm.length hk1, .int .u32 h.si, .slice hp2 h.tm.length hk2, .int .u32 h.ti], .slice a n c] W fun e w' => e = .returned (.bool true) ∧ Below W.heap.size W w' := by
  rcases hh with h1 | ⟨h1, h2⟩
  all_goals
    go_enter Tryd.func6, Tryd.ntmps6
    go_upto_region 1 with fail
    have hB : Blk ((W.alloc (.cells #[.slice p1 f.d.length k1, .slice p2 f.s.length k2, .int .i64 f.t, .slice p3 f.x.length k3] 25)).alloc (.cells #[.int .i64 h.op, .slice hp1 h.sm.length hk1, .int .u32 h.si, .slice hp2 h.tm.length hk2, .int .u32 h.ti] 34)) W.heap.size #[.slice p1 f.d.length k1, .slice p2 f.s.length k2, .int .i64 f.t, .slice p3 f.x.length k3] 25 := (Blk.new _ _ _ _ rfl).alloc _
    have hC : Blk ((W.alloc (.cells #[.slice p1 f.d.length k1, .slice p2 f.s.length k2, .int .i64 f.t, .slice p3 f.x.length k3] 25)).alloc (.cells #[.int .i64 h.op, .slice hp1 h.sm.length hk1, .int .u32 h.si, .slice hp2 h.tm.length hk2, .int .u32 h.ti] 34)) (W.heap.size + 1) #[.int .i64 h.op, .slice hp1 h.sm.length hk1, .int .u32 h.si, .slice hp2 h.tm.length hk2, .int .u32 h.ti] 34 := Blk.new _ _ _ _ (by simp)
    have g0 : Grew W ((W.alloc (.cells #[.slice p1 f.d.length k1, .slice p2 f.s.length k2, .int .i64 f.t, .slice p3 f.x.length k3] 25)).alloc (.cells #[.int .i64 h.op, .slice hp1 h.sm.length hk1, .int .u32 h.si, .slice hp2 h.tm.length hk2, .int .u32 h.ti] 34)) := ((Grew.refl _).alloc _).alloc _
    generalize ((W.alloc (.cells #[.slice p1 f.d.length k1, .slice p2 f.s.length k2, .int .i64 f.t, .slice p3 f.x.length k3] 25)).alloc (.cells #[.int .i64 h.op, .slice hp1 h.sm.length hk1, .int .u32 h.si, .slice hp2 h.tm.length hk2, .int .u32 h.ti] 34)) = w0 at *
    generalize W.heap.size + 1 = C at *
    generalize hlB : W.heap.size = B at *
    have y0 := hB.cell 0
    have y1 := hB.cell 1
    have y2 := hB.cell 2
    have y3 := hB.cell 3
    go_wp2_with fail
    refine (heads_c (g0) (sn.grew (g0))).mono ?_
    rintro e wh ⟨rfl, gh⟩
    go_wp2_with fail
    go_ret
    exact ⟨rfl, gh⟩
set_option maxHeartbeats 4000000 in
theorem walk_00 {f : FR} {p1 : Option Addr} {k1 : Nat} {p2 : Option Addr} {k2 : Nat} {p3 : Option Addr} {k3 : Nat} {h : AR} {hp1 : Option Addr} {hk1 : Nat} {hp2 : Option Addr} {hk2 : Nat} (a : Option Addr) (n c : Nat) (xs : List Int) {W : World} {a0 a1 a2 : Addr} (sn : Sen W a0 a1 a2) (h1 : ¬ ((3000 : Int) < (f.x.length : Nat))) (h2 : ¬ ((100 : Int) < (n : Nat))) (ok1 : okF f = false) (ok2 : okA h = false) (hF : Fr W (.agg #[.slice p1 f.d.length k1, .slice p2 f.s.length k2, .int .i64 f.t, .slice p3 f.x.length k3]) f) (hH : Ar W (.agg #[.int .i64 h.op, .slice hp1 h.sm.length hk1, .int .u32 h.si, .slice hp2 h.tm.length hk2, .int .u32 h.ti]) h) (hb : Buf W (.slice a n c) xs) :
    Calls Tryd.prog 6 #[.agg #[.slice p1 f.d.length k1, .slice p2 f.s.length k2, .int .i64 f.t, .slice p3 f.x.length k3], .agg #[.int .i64 h.op, .slice hp1 h.sm.length hk1, .int .u32 h.si, .slice hp2 h.tm.length hk2, .int .u32 h.ti], .slice a n c] W fun e w' => e = .returned (.bool true) ∧ Below W.heap.size W w' := by
  have HF0 := Lib.hid hF
  have HH0 := Lib.hid hH
  have HX0 := Lib.hid hb
  have HSI := Lib.hid hH.si
  have HTI := Lib.hid hH.ti
  have hp1 : putFE f = 2 := by unfold putFE; rw [ok1]; rfl
  have hp2 : putFB f = [] := by unfold putFB; rw [ok1]; rfl
  have hp3 : putAE h = 2 := by unfold putAE; rw [ok2]; rfl
  have hp4 : putAB h = [] := by unfold putAB; rw [ok2]; rfl
  have HP1 := Lib.hid hp1
  have HP2 := Lib.hid hp2
  have HP3 := Lib.hid hp3
  have HP4 := Lib.hid hp4
  have HO1 := Lib.hid ok1
  have HO2 := Lib.hid ok2
  clear hF hH hb hp1 hp2 hp3 hp4 ok1 ok2
  go_enter Tryd.func6, Tryd.ntmps6
  go_upto_region 1 with fail
  have hB : Blk ((W.alloc (.cells #[.slice p1 f.d.length k1, .slice p2 f.s.length k2, .int .i64 f.t, .slice p3 f.x.length k3] 25)).alloc (.cells #[.int .i64 h.op, .slice hp1 h.sm.length hk1, .int .u32 h.si, .slice hp2 h.tm.length hk2, .int .u32 h.ti] 34)) W.heap.size #[.slice p1 f.d.length k1, .slice p2 f.s.length k2, .int .i64 f.t, .slice p3 f.x.length k3] 25 := (Blk.new _ _ _ _ rfl).alloc _
  have hC : Blk ((W.alloc (.cells #[.slice p1 f.d.length k1, .slice p2 f.s.length k2, .int .i64 f.t, .slice p3 f.x.length k3] 25)).alloc (.cells #[.int .i64 h.op, .slice hp1 h.sm.length hk1, .int .u32 h.si, .slice hp2 h.tm.length hk2, .int .u32 h.ti] 34)) (W.heap.size + 1) #[.int .i64 h.op, .slice hp1 h.sm.length hk1, .int .u32 h.si, .slice hp2 h.tm.length hk2, .int .u32 h.ti] 34 := Blk.new _ _ _ _ (by simp)
  have g0 : Grew W ((W.alloc (.cells #[.slice p1 f.d.length k1, .slice p2 f.s.length k2, .int .i64 f.t, .slice p3 f.x.length k3] 25)).alloc (.cells #[.int .i64 h.op, .slice hp1 h.sm.length hk1, .int .u32 h.si, .slice hp2 h.tm.length hk2, .int .u32 h.ti] 34)) := ((Grew.refl _).alloc _).alloc _
  generalize ((W.alloc (.cells #[.slice p1 f.d.length k1, .slice p2 f.s.length k2, .int .i64 f.t, .slice p3 f.x.length k3] 25)).alloc (.cells #[.int .i64 h.op, .slice hp1 h.sm.length hk1, .int .u32 h.si, .slice hp2 h.tm.length hk2, .int .u32 h.ti] 34)) = w0 at *
  generalize W.heap.size + 1 = C at *
  generalize hlB : W.heap.size = B at *
  have HF := Lib.hid (HF0.out.grew g0)
  have HH := Lib.hid (HH0.out.grew g0)
  have HX := Lib.hid (HX0.out.grew g0)
  have y0 := hB.cell 0
  have y1 := hB.cell 1
  have y2 := hB.cell 2
  have y3 := hB.cell 3
  go_wp2_with fail
  refine (Put_c HF.out).mono ?_
  rintro e w1 ⟨ua, rfl, Ha, g1⟩
  rw [HP1.out]
  rw [HP2.out] at Ha
  obtain ⟨pa, ka, rfl, _, _⟩ := Ha.shape
  replace HF := Lib.hid (HF.out.grew g1)
  replace HH := Lib.hid (HH.out.grew g1)
  replace HX := Lib.hid (HX.out.grew g1)
  replace hB := hB.grew g1
  replace hC := hC.grew g1
  replace Ha := Lib.hid Ha
  have G1 := g0.trans g1
  clear g1
  clear y0 y1 y2 y3
  have y0 := hC.cell 0
  have y1 := hC.cell 1
  have y2 := hC.cell 2
  have y3 := hC.cell 3
  have y4 := hC.cell 4
  go_wp2_with fail
  refine (PutArp_c HH.out).mono ?_
  rintro e w2 ⟨ub, rfl, Hb, g2⟩
  rw [HP3.out]
  rw [HP4.out] at Hb
  obtain ⟨pb, kb, rfl, _, _⟩ := Hb.shape
  replace HF := Lib.hid (HF.out.grew g2)
  replace HH := Lib.hid (HH.out.grew g2)
  replace HX := Lib.hid (HX.out.grew g2)
  replace Ha := Lib.hid (Ha.out.grew g2)
  replace hB := hB.grew g2
  replace hC := hC.grew g2
  replace Hb := Lib.hid Hb
  have G2 := G1.trans g2
  clear g2
  clear y0 y1 y2 y3 y4
  go_wp2_with fail
  refine (heads_c (G2) (sn.grew (G2))).mono ?_
  rintro e wh ⟨rfl, gh⟩
  go_wp2_with fail
  go_ret
  exact ⟨rfl, gh⟩
set_option maxHeartbeats 4000000 in
theorem walk_01 {f : FR} {p1 : Option Addr} {k1 : Nat} {p2 : Option Addr} {k2 : Nat} {p3 : Option Addr} {k3 : Nat} {h : AR} {hp1 : Option Addr} {hk1 : Nat} {hp2 : Option Addr} {hk2 : Nat} (a : Option Addr) (n c : Nat) (xs : List Int) {W : World} {a0 a1 a2 : Addr} (sn : Sen W a0 a1 a2) (h1 : ¬ ((3000 : Int) < (f.x.length : Nat))) (h2 : ¬ ((100 : Int) < (n : Nat))) (ok1 : okF f = false) (ok2 : okA h = true) (hF : Fr W (.agg #[.slice p1 f.d.length k1, .slice p2 f.s.length k2, .int .i64 f.t, .slice p3 f.x.length k3]) f) (hH : Ar W (.agg #[.int .i64 h.op, .slice hp1 h.sm.length hk1, .int .u32 h.si, .slice hp2 h.tm.length hk2, .int .u32 h.ti]) h) (hb : Buf W (.slice a n c) xs) :
    Calls Tryd.prog 6 #[.agg #[.slice p1 f.d.length k1, .slice p2 f.s.length k2, .int .i64 f.t, .slice p3 f.x.length k3], .agg #[.int .i64 h.op, .slice hp1 h.sm.length hk1, .int .u32 h.si, .slice hp2 h.tm.length hk2, .int .u32 h.ti], .slice a n c] W fun e w' => e = .returned (.bool true) ∧ Below W.heap.size W w' := by
  have HF0 := Lib.hid hF
  have HH0 := Lib.hid hH
  have HX0 := Lib.hid hb
  have HSI := Lib.hid hH.si
  have HTI := Lib.hid hH.ti
  have hp1 : putFE f = 2 := by unfold putFE; rw [ok1]; rfl
  have hp2 : putFB f = [] := by unfold putFB; rw [ok1]; rfl
  have hp3 : putAE h = 0 := by unfold putAE; rw [ok2]; rfl
  have hp4 : putAB h = putA h := by unfold putAB; rw [ok2]; rfl
  have HP1 := Lib.hid hp1
  have HP2 := Lib.hid hp2
  have HP3 := Lib.hid hp3
  have HP4 := Lib.hid hp4
  have HO1 := Lib.hid ok1
  have HO2 := Lib.hid ok2
  clear hF hH hb hp1 hp2 hp3 hp4 ok1 ok2
  go_enter Tryd.func6, Tryd.ntmps6
  go_upto_region 1 with fail
  have hB : Blk ((W.alloc (.cells #[.slice p1 f.d.length k1, .slice p2 f.s.length k2, .int .i64 f.t, .slice p3 f.x.length k3] 25)).alloc (.cells #[.int .i64 h.op, .slice hp1 h.sm.length hk1, .int .u32 h.si, .slice hp2 h.tm.length hk2, .int .u32 h.ti] 34)) W.heap.size #[.slice p1 f.d.length k1, .slice p2 f.s.length k2, .int .i64 f.t, .slice p3 f.x.length k3] 25 := (Blk.new _ _ _ _ rfl).alloc _
  have hC : Blk ((W.alloc (.cells #[.slice p1 f.d.length k1, .slice p2 f.s.length k2, .int .i64 f.t, .slice p3 f.x.length k3] 25)).alloc (.cells #[.int .i64 h.op, .slice hp1 h.sm.length hk1, .int .u32 h.si, .slice hp2 h.tm.length hk2, .int .u32 h.ti] 34)) (W.heap.size + 1) #[.int .i64 h.op, .slice hp1 h.sm.length hk1, .int .u32 h.si, .slice hp2 h.tm.length hk2, .int .u32 h.ti] 34 := Blk.new _ _ _ _ (by simp)
  have g0 : Grew W ((W.alloc (.cells #[.slice p1 f.d.length k1, .slice p2 f.s.length k2, .int .i64 f.t, .slice p3 f.x.length k3] 25)).alloc (.cells #[.int .i64 h.op, .slice hp1 h.sm.length hk1, .int .u32 h.si, .slice hp2 h.tm.length hk2, .int .u32 h.ti] 34)) := ((Grew.refl _).alloc _).alloc _
  generalize ((W.alloc (.cells #[.slice p1 f.d.length k1, .slice p2 f.s.length k2, .int .i64 f.t, .slice p3 f.x.length k3] 25)).alloc (.cells #[.int .i64 h.op, .slice hp1 h.sm.length hk1, .int .u32 h.si, .slice hp2 h.tm.length hk2, .int .u32 h.ti] 34)) = w0 at *
  generalize W.heap.size + 1 = C at *
  generalize hlB : W.heap.size = B at *
  have HF := Lib.hid (HF0.out.grew g0)
  have HH := Lib.hid (HH0.out.grew g0)
  have HX := Lib.hid (HX0.out.grew g0)
  have y0 := hB.cell 0
  have y1 := hB.cell 1
  have y2 := hB.cell 2
  have y3 := hB.cell 3
  go_wp2_with fail
  refine (Put_c HF.out).mono ?_
  rintro e w1 ⟨ua, rfl, Ha, g1⟩
  rw [HP1.out]
  rw [HP2.out] at Ha
  obtain ⟨pa, ka, rfl, _, _⟩ := Ha.shape
  replace HF := Lib.hid (HF.out.grew g1)
  replace HH := Lib.hid (HH.out.grew g1)
  replace HX := Lib.hid (HX.out.grew g1)
  replace hB := hB.grew g1
  replace hC := hC.grew g1
  replace Ha := Lib.hid Ha
  have G1 := g0.trans g1
  clear g1
  clear y0 y1 y2 y3
  have y0 := hC.cell 0
  have y1 := hC.cell 1
  have y2 := hC.cell 2
  have y3 := hC.cell 3
  have y4 := hC.cell 4
  go_wp2_with fail
  refine (PutArp_c HH.out).mono ?_
  rintro e w2 ⟨ub, rfl, Hb, g2⟩
  rw [HP3.out]
  rw [HP4.out] at Hb
  obtain ⟨pb, kb, rfl, _, _⟩ := Hb.shape
  replace HF := Lib.hid (HF.out.grew g2)
  replace HH := Lib.hid (HH.out.grew g2)
  replace HX := Lib.hid (HX.out.grew g2)
  replace Ha := Lib.hid (Ha.out.grew g2)
  replace hB := hB.grew g2
  replace hC := hC.grew g2
  replace Hb := Lib.hid Hb
  have G2 := G1.trans g2
  clear g2
  clear y0 y1 y2 y3 y4
  have hlb := putA_len HO2.out
  have hxl : xs.length ≤ 100 := by have := HX.out.lenEq.1; omega
  have hl1 : Hid (([] : List Int).length + (putA h).length ≤ 140737488355328) := Lib.hid (by rw [hlb]; decide)
  have hl2 : Hid (([] ++ putA h).length + xs.length ≤ 140737488355328) := Lib.hid (by rw [List.nil_append, hlb]; omega)
  have ge : Grew w2 (w2.alloc (.cells #[] 5)) := (Grew.refl w2).alloc _
  have HE : Hid (Row (w2.alloc (.cells #[] 5)) w2.heap.size (.slice (some ⟨w2.heap.size, 0, none⟩) 0 0) []) := Lib.hid (Row.lit w2 w2.heap.size (Nat.le_refl _) #[] [] rfl (by unfold maxLen; simp) _ rfl 0 rfl)
  have HB9 := Lib.hid (Hb.out.grew ge)
  have HX9 := Lib.hid (HX.out.grew ge)
  have hokc := Lib.hid (show AreBytes (putA h ++ xs) from fun z hz => by
    rcases List.mem_append.1 hz with hz | hz
    · exact Hb.out.ok z hz
    · exact HX.out.ok z hz)
  have hga := getA_putA HO2.out HSI.out HTI.out xs
  have HG3 := Lib.hid hga.1
  have HG4 := Lib.hid hga.2
  clear hlb hxl hga
  go_upto_region 10 with fail
  go_upto_region 11 with (first
    | (refine wpList_append_b (W := w2) rfl (.tmp 61) (.tmp 62) rfl ge HE.out HB9.out (by rfl) (by rfl) hl1.out ?_; intro v9 wa R9 ga y9; clear y9)
    | (refine wpList_append_b (W := w2) rfl (.tmp 63) (.tmp 64) rfl ga R9.out (HX.out.grew ga) (by rfl) (by rfl) hl2.out ?_; intro v10 wb R10 gb y10; clear y10; have hc10 : Buf wb v10 (putA h ++ xs) := R10.out.buf hokc.out; have HC10 := Lib.hid hc10; clear hc10)
    | (go_at_call 12; refine (GetArp_c (sn.grew (G2.trans gb)) HC10.out).mono ?_; rintro e wc ⟨uu, rfl, Hu, gc⟩; rw [HG3.out] at Hu; rw [HG4.out]; have Eu := Hu.shape; obtain ⟨up1, uk1, up2, uk2, rfl, _, _⟩ := Eu))
  have gbc := gb.trans gc
  have Hu' := Hu.grew ((Grew.refl wc).alloc (.cells #[.int .i64 h.op, .slice up1 h.sm.length uk1, .int .u32 h.si, .slice up2 h.tm.length uk2, .int .u32 h.ti] 34))
  have hX12 : Blk (wc.alloc (.cells #[.int .i64 h.op, .slice up1 h.sm.length uk1, .int .u32 h.si, .slice up2 h.tm.length uk2, .int .u32 h.ti] 34)) wc.heap.size #[.int .i64 h.op, .slice up1 h.sm.length uk1, .int .u32 h.si, .slice up2 h.tm.length uk2, .int .u32 h.ti] 34 := Blk.new _ _ _ _ rfl
  have gd : Grew wc (wc.alloc (.cells #[.int .i64 h.op, .slice up1 h.sm.length uk1, .int .u32 h.si, .slice up2 h.tm.length uk2, .int .u32 h.ti] 34)) := (Grew.refl _).alloc _
  generalize (wc.alloc (.cells #[.int .i64 h.op, .slice up1 h.sm.length uk1, .int .u32 h.si, .slice up2 h.tm.length uk2, .int .u32 h.ti] 34)) = wd at *
  generalize hlX12 : wc.heap.size = X12 at *
  have gbd := gbc.trans gd
  have hsa := arps16_c Hu' (HH.out.grew gbd)
  rw [show ((h.op == h.op) && decide (h.sm = h.sm) && (h.si == h.si) && decide (h.tm = h.tm) && (h.ti == h.ti)) = true by simp] at hsa
  have HSA := Lib.hid hsa
  have hC9 := hC.grew gbd
  clear hsa Hu Hu' gbc gb gc gd ga R9 R10 HC10 HE HB9 HX9
  have y0 := hX12.cell 0
  have y1 := hX12.cell 1
  have y2 := hX12.cell 2
  have y3 := hX12.cell 3
  have y4 := hX12.cell 4
  have z0 := hC9.cell 0
  have z1 := hC9.cell 1
  have z2 := hC9.cell 2
  have z3 := hC9.cell 3
  have z4 := hC9.cell 4
  go_wp2_with fail
  refine HSA.out.mono ?_
  rintro e we ⟨rfl, gf⟩
  go_wp2_with fail
  refine (heads_c ((G2.trans gbd).trans gf) (sn.grew ((G2.trans gbd).trans gf))).mono ?_
  rintro e wh ⟨rfl, gh⟩
  go_wp2_with fail
  go_ret
  exact ⟨rfl, gh⟩
set_option maxHeartbeats 4000000 in
theorem walk_10 {f : FR} {p1 : Option Addr} {k1 : Nat} {p2 : Option Addr} {k2 : Nat} {p3 : Option Addr} {k3 : Nat} {h : AR} {hp1 : Option Addr} {hk1 : Nat} {hp2 : Option Addr} {hk2 : Nat} (a : Option Addr) (n c : Nat) (xs : List Int) {W : World} {a0 a1 a2 : Addr} (sn : Sen W a0 a1 a2) (h1 : ¬ ((3000 : Int) < (f.x.length : Nat))) (h2 : ¬ ((100 : Int) < (n : Nat))) (ok1 : okF f = true) (ok2 : okA h = false) (hF : Fr W (.agg #[.slice p1 f.d.length k1, .slice p2 f.s.length k2, .int .i64 f.t, .slice p3 f.x.length k3]) f) (hH : Ar W (.agg #[.int .i64 h.op, .slice hp1 h.sm.length hk1, .int .u32 h.si, .slice hp2 h.tm.length hk2, .int .u32 h.ti]) h) (hb : Buf W (.slice a n c) xs) :
    Calls Tryd.prog 6 #[.agg #[.slice p1 f.d.length k1, .slice p2 f.s.length k2, .int .i64 f.t, .slice p3 f.x.length k3], .agg #[.int .i64 h.op, .slice hp1 h.sm.length hk1, .int .u32 h.si, .slice hp2 h.tm.length hk2, .int .u32 h.ti], .slice a n c] W fun e w' => e = .returned (.bool true) ∧ Below W.heap.size W w' := by
  have HF0 := Lib.hid hF
  have HH0 := Lib.hid hH
  have HX0 := Lib.hid hb
  have HSI := Lib.hid hH.si
  have HTI := Lib.hid hH.ti
  have hp1 : putFE f = 0 := by unfold putFE; rw [ok1]; rfl
  have hp2 : putFB f = putF f := by unfold putFB; rw [ok1]; rfl
  have hp3 : putAE h = 2 := by unfold putAE; rw [ok2]; rfl
  have hp4 : putAB h = [] := by unfold putAB; rw [ok2]; rfl
  have HP1 := Lib.hid hp1
  have HP2 := Lib.hid hp2
  have HP3 := Lib.hid hp3
  have HP4 := Lib.hid hp4
  have HO1 := Lib.hid ok1
  have HO2 := Lib.hid ok2
  clear hF hH hb hp1 hp2 hp3 hp4 ok1 ok2
  go_enter Tryd.func6, Tryd.ntmps6
  go_upto_region 1 with fail
  have hB : Blk ((W.alloc (.cells #[.slice p1 f.d.length k1, .slice p2 f.s.length k2, .int .i64 f.t, .slice p3 f.x.length k3] 25)).alloc (.cells #[.int .i64 h.op, .slice hp1 h.sm.length hk1, .int .u32 h.si, .slice hp2 h.tm.length hk2, .int .u32 h.ti] 34)) W.heap.size #[.slice p1 f.d.length k1, .slice p2 f.s.length k2, .int .i64 f.t, .slice p3 f.x.length k3] 25 := (Blk.new _ _ _ _ rfl).alloc _
  have hC : Blk ((W.alloc (.cells #[.slice p1 f.d.length k1, .slice p2 f.s.length k2, .int .i64 f.t, .slice p3 f.x.length k3] 25)).alloc (.cells #[.int .i64 h.op, .slice hp1 h.sm.length hk1, .int .u32 h.si, .slice hp2 h.tm.length hk2, .int .u32 h.ti] 34)) (W.heap.size + 1) #[.int .i64 h.op, .slice hp1 h.sm.length hk1, .int .u32 h.si, .slice hp2 h.tm.length hk2, .int .u32 h.ti] 34 := Blk.new _ _ _ _ (by simp)
  have g0 : Grew W ((W.alloc (.cells #[.slice p1 f.d.length k1, .slice p2 f.s.length k2, .int .i64 f.t, .slice p3 f.x.length k3] 25)).alloc (.cells #[.int .i64 h.op, .slice hp1 h.sm.length hk1, .int .u32 h.si, .slice hp2 h.tm.length hk2, .int .u32 h.ti] 34)) := ((Grew.refl _).alloc _).alloc _
  generalize ((W.alloc (.cells #[.slice p1 f.d.length k1, .slice p2 f.s.length k2, .int .i64 f.t, .slice p3 f.x.length k3] 25)).alloc (.cells #[.int .i64 h.op, .slice hp1 h.sm.length hk1, .int .u32 h.si, .slice hp2 h.tm.length hk2, .int .u32 h.ti] 34)) = w0 at *
  generalize W.heap.size + 1 = C at *
  generalize hlB : W.heap.size = B at *
  have HF := Lib.hid (HF0.out.grew g0)
  have HH := Lib.hid (HH0.out.grew g0)
  have HX := Lib.hid (HX0.out.grew g0)
  have y0 := hB.cell 0
  have y1 := hB.cell 1
  have y2 := hB.cell 2
  have y3 := hB.cell 3
  go_wp2_with fail
  refine (Put_c HF.out).mono ?_
  rintro e w1 ⟨ua, rfl, Ha, g1⟩
  rw [HP1.out]
  rw [HP2.out] at Ha
  obtain ⟨pa, ka, rfl, _, _⟩ := Ha.shape
  replace HF := Lib.hid (HF.out.grew g1)
  replace HH := Lib.hid (HH.out.grew g1)
  replace HX := Lib.hid (HX.out.grew g1)
  replace hB := hB.grew g1
  replace hC := hC.grew g1
  replace Ha := Lib.hid Ha
  have G1 := g0.trans g1
  clear g1
  clear y0 y1 y2 y3
  have hgf := getF_putF HO1.out
  have HG1 := Lib.hid hgf.1
  have HG2 := Lib.hid hgf.2
  have hlen := putF_len HO1.out
  have HLEN := Lib.hid hlen
  clear hgf hlen
  go_wp2_with fail
  refine (Get_c (sn.grew G1) Ha.out).mono ?_
  rintro e w2 ⟨uv, rfl, Hv, g2⟩
  rw [HG1.out] at Hv
  rw [HG2.out]
  have Ev := Hv.shape
  obtain ⟨vp1, vk1, vp2, vk2, vp3, vk3, rfl, _, _, _⟩ := Ev
  replace HF := Lib.hid (HF.out.grew g2)
  replace HH := Lib.hid (HH.out.grew g2)
  replace HX := Lib.hid (HX.out.grew g2)
  replace Ha := Lib.hid (Ha.out.grew g2)
  replace hB := hB.grew g2
  replace hC := hC.grew g2
  replace Hv := Lib.hid Hv
  have G2 := G1.trans g2
  clear g2
  go_upto_region 6 with fail
  have g3 : Grew w2 (w2.alloc (.cells #[.slice vp1 f.d.length vk1, .slice vp2 f.s.length vk2, .int .i64 f.t, .slice vp3 f.x.length vk3] 25)) := (Grew.refl _).alloc _
  have hX9 : Blk (w2.alloc (.cells #[.slice vp1 f.d.length vk1, .slice vp2 f.s.length vk2, .int .i64 f.t, .slice vp3 f.x.length vk3] 25)) w2.heap.size #[.slice vp1 f.d.length vk1, .slice vp2 f.s.length vk2, .int .i64 f.t, .slice vp3 f.x.length vk3] 25 := Blk.new _ _ _ _ rfl
  replace HF := Lib.hid (HF.out.grew g3)
  replace HH := Lib.hid (HH.out.grew g3)
  replace HX := Lib.hid (HX.out.grew g3)
  replace Ha := Lib.hid (Ha.out.grew g3)
  replace Hv := Lib.hid (Hv.out.grew g3)
  replace hB := hB.grew g3
  replace hC := hC.grew g3
  have G3 := G2.trans g3
  clear g3
  generalize (w2.alloc (.cells #[.slice vp1 f.d.length vk1, .slice vp2 f.s.length vk2, .int .i64 f.t, .slice vp3 f.x.length vk3] 25)) = w3 at *
  generalize w2.heap.size = X9 at *
  have hsf := same16_c Hv.out HF.out
  rw [show (decide (f.d = f.d) && decide (f.s = f.s) && (f.t == f.t) && decide (f.x = f.x)) = true by simp] at hsf
  have HSF := Lib.hid hsf
  clear hsf
  have e9 : (((putF f).length : Int) != (14 + (f.x.length : Nat))) = false := by rw [HLEN.out]; simp
  have e8 : wrap64 (14 + (f.x.length : Int)) = 14 + (f.x.length : Int) := IntWalk.wrap64_in _ (by have := h1; omega)
  have y0 := hX9.cell 0
  have y1 := hX9.cell 1
  have y2 := hX9.cell 2
  have y3 := hX9.cell 3
  have z0 := hB.cell 0
  have z1 := hB.cell 1
  have z2 := hB.cell 2
  have z3 := hB.cell 3
  go_wp2_with fail
  refine HSF.out.mono ?_
  rintro e wj ⟨rfl, gj⟩
  replace HF := Lib.hid (HF.out.grew gj)
  replace HH := Lib.hid (HH.out.grew gj)
  replace HX := Lib.hid (HX.out.grew gj)
  replace Ha := Lib.hid (Ha.out.grew gj)
  replace Hv := Lib.hid (Hv.out.grew gj)
  replace hB := hB.grew gj
  replace hC := hC.grew gj
  replace hX9 := hX9.grew gj
  have Gj := G3.trans gj
  clear gj y0 y1 y2 y3 z0 z1 z2 z3
  have z0 := hB.cell 0
  have z1 := hB.cell 1
  have z2 := hB.cell 2
  have z3 := hB.cell 3
  have y0 := hC.cell 0
  have y1 := hC.cell 1
  have y2 := hC.cell 2
  have y3 := hC.cell 3
  have y4 := hC.cell 4
  go_wp2_with fail
  refine (PutArp_c HH.out).mono ?_
  rintro e w4 ⟨ub, rfl, Hb, g4⟩
  rw [HP3.out]
  rw [HP4.out] at Hb
  obtain ⟨pb, kb, rfl, _, _⟩ := Hb.shape
  replace HF := Lib.hid (HF.out.grew g4)
  replace HH := Lib.hid (HH.out.grew g4)
  replace HX := Lib.hid (HX.out.grew g4)
  replace Ha := Lib.hid (Ha.out.grew g4)
  replace Hv := Lib.hid (Hv.out.grew g4)
  replace hB := hB.grew g4
  replace hC := hC.grew g4
  replace hX9 := hX9.grew g4
  replace Hb := Lib.hid Hb
  have G4 := Gj.trans g4
  clear g4
  clear y0 y1 y2 y3 y4 z0 z1 z2 z3
  go_wp2_with fail
  refine (heads_c (G4) (sn.grew (G4))).mono ?_
  rintro e wh ⟨rfl, gh⟩
  go_wp2_with fail
  go_ret
  exact ⟨rfl, gh⟩
set_option maxHeartbeats 4000000 in
theorem walk_11 {f : FR} {p1 : Option Addr} {k1 : Nat} {p2 : Option Addr} {k2 : Nat} {p3 : Option Addr} {k3 : Nat} {h : AR} {hp1 : Option Addr} {hk1 : Nat} {hp2 : Option Addr} {hk2 : Nat} (a : Option Addr) (n c : Nat) (xs : List Int) {W : World} {a0 a1 a2 : Addr} (sn : Sen W a0 a1 a2) (h1 : ¬ ((3000 : Int) < (f.x.length : Nat))) (h2 : ¬ ((100 : Int) < (n : Nat))) (ok1 : okF f = true) (ok2 : okA h = true) (hF : Fr W (.agg #[.slice p1 f.d.length k1, .slice p2 f.s.length k2, .int .i64 f.t, .slice p3 f.x.length k3]) f) (hH : Ar W (.agg #[.int .i64 h.op, .slice hp1 h.sm.length hk1, .int .u32 h.si, .slice hp2 h.tm.length hk2, .int .u32 h.ti]) h) (hb : Buf W (.slice a n c) xs) :
    Calls Tryd.prog 6 #[.agg #[.slice p1 f.d.length k1, .slice p2 f.s.length k2, .int .i64 f.t, .slice p3 f.x.length k3], .agg #[.int .i64 h.op, .slice hp1 h.sm.length hk1, .int .u32 h.si, .slice hp2 h.tm.length hk2, .int .u32 h.ti], .slice a n c] W fun e w' => e = .returned (.bool true) ∧ Below W.heap.size W w' := by
  have HF0 := Lib.hid hF
  have HH0 := Lib.hid hH
  have HX0 := Lib.hid hb
  have HSI := Lib.hid hH.si
  have HTI := Lib.hid hH.ti
  have hp1 : putFE f = 0 := by unfold putFE; rw [ok1]; rfl
  have hp2 : putFB f = putF f := by unfold putFB; rw [ok1]; rfl
  have hp3 : putAE h = 0 := by unfold putAE; rw [ok2]; rfl
  have hp4 : putAB h = putA h := by unfold putAB; rw [ok2]; rfl
  have HP1 := Lib.hid hp1
  have HP2 := Lib.hid hp2
  have HP3 := Lib.hid hp3
  have HP4 := Lib.hid hp4
  have HO1 := Lib.hid ok1
  have HO2 := Lib.hid ok2
  clear hF hH hb hp1 hp2 hp3 hp4 ok1 ok2
  go_enter Tryd.func6, Tryd.ntmps6
  go_upto_region 1 with fail
  have hB : Blk ((W.alloc (.cells #[.slice p1 f.d.length k1, .slice p2 f.s.length k2, .int .i64 f.t, .slice p3 f.x.length k3] 25)).alloc (.cells #[.int .i64 h.op, .slice hp1 h.sm.length hk1, .int .u32 h.si, .slice hp2 h.tm.length hk2, .int .u32 h.ti] 34)) W.heap.size #[.slice p1 f.d.length k1, .slice p2 f.s.length k2, .int .i64 f.t, .slice p3 f.x.length k3] 25 := (Blk.new _ _ _ _ rfl).alloc _
  have hC : Blk ((W.alloc (.cells #[.slice p1 f.d.length k1, .slice p2 f.s.length k2, .int .i64 f.t, .slice p3 f.x.length k3] 25)).alloc (.cells #[.int .i64 h.op, .slice hp1 h.sm.length hk1, .int .u32 h.si, .slice hp2 h.tm.length hk2, .int .u32 h.ti] 34)) (W.heap.size + 1) #[.int .i64 h.op, .slice hp1 h.sm.length hk1, .int .u32 h.si, .slice hp2 h.tm.length hk2, .int .u32 h.ti] 34 := Blk.new _ _ _ _ (by simp)
  have g0 : Grew W ((W.alloc (.cells #[.slice p1 f.d.length k1, .slice p2 f.s.length k2, .int .i64 f.t, .slice p3 f.x.length k3] 25)).alloc (.cells #[.int .i64 h.op, .slice hp1 h.sm.length hk1, .int .u32 h.si, .slice hp2 h.tm.length hk2, .int .u32 h.ti] 34)) := ((Grew.refl _).alloc _).alloc _
  generalize ((W.alloc (.cells #[.slice p1 f.d.length k1, .slice p2 f.s.length k2, .int .i64 f.t, .slice p3 f.x.length k3] 25)).alloc (.cells #[.int .i64 h.op, .slice hp1 h.sm.length hk1, .int .u32 h.si, .slice hp2 h.tm.length hk2, .int .u32 h.ti] 34)) = w0 at *
  generalize W.heap.size + 1 = C at *
  generalize hlB : W.heap.size = B at *
  have HF := Lib.hid (HF0.out.grew g0)
  have HH := Lib.hid (HH0.out.grew g0)
  have HX := Lib.hid (HX0.out.grew g0)
  have y0 := hB.cell 0
  have y1 := hB.cell 1
  have y2 := hB.cell 2
  have y3 := hB.cell 3
  go_wp2_with fail
  refine (Put_c HF.out).mono ?_
  rintro e w1 ⟨ua, rfl, Ha, g1⟩
  rw [HP1.out]
  rw [HP2.out] at Ha
  obtain ⟨pa, ka, rfl, _, _⟩ := Ha.shape
  replace HF := Lib.hid (HF.out.grew g1)
  replace HH := Lib.hid (HH.out.grew g1)
  replace HX := Lib.hid (HX.out.grew g1)
  replace hB := hB.grew g1
  replace hC := hC.grew g1
  replace Ha := Lib.hid Ha
  have G1 := g0.trans g1
  clear g1
  clear y0 y1 y2 y3
  have hgf := getF_putF HO1.out
  have HG1 := Lib.hid hgf.1
  have HG2 := Lib.hid hgf.2
  have hlen := putF_len HO1.out
  have HLEN := Lib.hid hlen
  clear hgf hlen
  go_wp2_with fail
  refine (Get_c (sn.grew G1) Ha.out).mono ?_
  rintro e w2 ⟨uv, rfl, Hv, g2⟩
  rw [HG1.out] at Hv
  rw [HG2.out]
  have Ev := Hv.shape
  obtain ⟨vp1, vk1, vp2, vk2, vp3, vk3, rfl, _, _, _⟩ := Ev
  replace HF := Lib.hid (HF.out.grew g2)
  replace HH := Lib.hid (HH.out.grew g2)
  replace HX := Lib.hid (HX.out.grew g2)
  replace Ha := Lib.hid (Ha.out.grew g2)
  replace hB := hB.grew g2
  replace hC := hC.grew g2
  replace Hv := Lib.hid Hv
  have G2 := G1.trans g2
  clear g2
  go_upto_region 6 with fail
  have g3 : Grew w2 (w2.alloc (.cells #[.slice vp1 f.d.length vk1, .slice vp2 f.s.length vk2, .int .i64 f.t, .slice vp3 f.x.length vk3] 25)) := (Grew.refl _).alloc _
  have hX9 : Blk (w2.alloc (.cells #[.slice vp1 f.d.length vk1, .slice vp2 f.s.length vk2, .int .i64 f.t, .slice vp3 f.x.length vk3] 25)) w2.heap.size #[.slice vp1 f.d.length vk1, .slice vp2 f.s.length vk2, .int .i64 f.t, .slice vp3 f.x.length vk3] 25 := Blk.new _ _ _ _ rfl
  replace HF := Lib.hid (HF.out.grew g3)
  replace HH := Lib.hid (HH.out.grew g3)
  replace HX := Lib.hid (HX.out.grew g3)
  replace Ha := Lib.hid (Ha.out.grew g3)
  replace Hv := Lib.hid (Hv.out.grew g3)
  replace hB := hB.grew g3
  replace hC := hC.grew g3
  have G3 := G2.trans g3
  clear g3
  generalize (w2.alloc (.cells #[.slice vp1 f.d.length vk1, .slice vp2 f.s.length vk2, .int .i64 f.t, .slice vp3 f.x.length vk3] 25)) = w3 at *
  generalize w2.heap.size = X9 at *
  have hsf := same16_c Hv.out HF.out
  rw [show (decide (f.d = f.d) && decide (f.s = f.s) && (f.t == f.t) && decide (f.x = f.x)) = true by simp] at hsf
  have HSF := Lib.hid hsf
  clear hsf
  have e9 : (((putF f).length : Int) != (14 + (f.x.length : Nat))) = false := by rw [HLEN.out]; simp
  have e8 : wrap64 (14 + (f.x.length : Int)) = 14 + (f.x.length : Int) := IntWalk.wrap64_in _ (by have := h1; omega)
  have y0 := hX9.cell 0
  have y1 := hX9.cell 1
  have y2 := hX9.cell 2
  have y3 := hX9.cell 3
  have z0 := hB.cell 0
  have z1 := hB.cell 1
  have z2 := hB.cell 2
  have z3 := hB.cell 3
  go_wp2_with fail
  refine HSF.out.mono ?_
  rintro e wj ⟨rfl, gj⟩
  replace HF := Lib.hid (HF.out.grew gj)
  replace HH := Lib.hid (HH.out.grew gj)
  replace HX := Lib.hid (HX.out.grew gj)
  replace Ha := Lib.hid (Ha.out.grew gj)
  replace Hv := Lib.hid (Hv.out.grew gj)
  replace hB := hB.grew gj
  replace hC := hC.grew gj
  replace hX9 := hX9.grew gj
  have Gj := G3.trans gj
  clear gj y0 y1 y2 y3 z0 z1 z2 z3
  have z0 := hB.cell 0
  have z1 := hB.cell 1
  have z2 := hB.cell 2
  have z3 := hB.cell 3
  have y0 := hC.cell 0
  have y1 := hC.cell 1
  have y2 := hC.cell 2
  have y3 := hC.cell 3
  have y4 := hC.cell 4
  go_wp2_with fail
  refine (PutArp_c HH.out).mono ?_
  rintro e w4 ⟨ub, rfl, Hb, g4⟩
  rw [HP3.out]
  rw [HP4.out] at Hb
  obtain ⟨pb, kb, rfl, _, _⟩ := Hb.shape
  replace HF := Lib.hid (HF.out.grew g4)
  replace HH := Lib.hid (HH.out.grew g4)
  replace HX := Lib.hid (HX.out.grew g4)
  replace Ha := Lib.hid (Ha.out.grew g4)
  replace Hv := Lib.hid (Hv.out.grew g4)
  replace hB := hB.grew g4
  replace hC := hC.grew g4
  replace hX9 := hX9.grew g4
  replace Hb := Lib.hid Hb
  have G4 := Gj.trans g4
  clear g4
  clear y0 y1 y2 y3 y4 z0 z1 z2 z3
  have hlb := putA_len HO2.out
  have hxl : xs.length ≤ 100 := by have := HX.out.lenEq.1; omega
  have hl1 : Hid (([] : List Int).length + (putA h).length ≤ 140737488355328) := Lib.hid (by rw [hlb]; decide)
  have hl2 : Hid (([] ++ putA h).length + xs.length ≤ 140737488355328) := Lib.hid (by rw [List.nil_append, hlb]; omega)
  have ge : Grew w4 (w4.alloc (.cells #[] 5)) := (Grew.refl w4).alloc _
  have HE : Hid (Row (w4.alloc (.cells #[] 5)) w4.heap.size (.slice (some ⟨w4.heap.size, 0, none⟩) 0 0) []) := Lib.hid (Row.lit w4 w4.heap.size (Nat.le_refl _) #[] [] rfl (by unfold maxLen; simp) _ rfl 0 rfl)
  have HB9 := Lib.hid (Hb.out.grew ge)
  have HX9 := Lib.hid (HX.out.grew ge)
  have hokc := Lib.hid (show AreBytes (putA h ++ xs) from fun z hz => by
    rcases List.mem_append.1 hz with hz | hz
    · exact Hb.out.ok z hz
    · exact HX.out.ok z hz)
  have hga := getA_putA HO2.out HSI.out HTI.out xs
  have HG3 := Lib.hid hga.1
  have HG4 := Lib.hid hga.2
  clear hlb hxl hga
  go_upto_region 10 with fail
  go_upto_region 11 with (first
    | (refine wpList_append_b (W := w4) rfl (.tmp 61) (.tmp 62) rfl ge HE.out HB9.out (by rfl) (by rfl) hl1.out ?_; intro v9 wa R9 ga y9; clear y9)
    | (refine wpList_append_b (W := w4) rfl (.tmp 63) (.tmp 64) rfl ga R9.out (HX.out.grew ga) (by rfl) (by rfl) hl2.out ?_; intro v10 wb R10 gb y10; clear y10; have hc10 : Buf wb v10 (putA h ++ xs) := R10.out.buf hokc.out; have HC10 := Lib.hid hc10; clear hc10)
    | (go_at_call 12; refine (GetArp_c (sn.grew (G4.trans gb)) HC10.out).mono ?_; rintro e wc ⟨uu, rfl, Hu, gc⟩; rw [HG3.out] at Hu; rw [HG4.out]; have Eu := Hu.shape; obtain ⟨up1, uk1, up2, uk2, rfl, _, _⟩ := Eu))
  have gbc := gb.trans gc
  have Hu' := Hu.grew ((Grew.refl wc).alloc (.cells #[.int .i64 h.op, .slice up1 h.sm.length uk1, .int .u32 h.si, .slice up2 h.tm.length uk2, .int .u32 h.ti] 34))
  have hX12 : Blk (wc.alloc (.cells #[.int .i64 h.op, .slice up1 h.sm.length uk1, .int .u32 h.si, .slice up2 h.tm.length uk2, .int .u32 h.ti] 34)) wc.heap.size #[.int .i64 h.op, .slice up1 h.sm.length uk1, .int .u32 h.si, .slice up2 h.tm.length uk2, .int .u32 h.ti] 34 := Blk.new _ _ _ _ rfl
  have gd : Grew wc (wc.alloc (.cells #[.int .i64 h.op, .slice up1 h.sm.length uk1, .int .u32 h.si, .slice up2 h.tm.length uk2, .int .u32 h.ti] 34)) := (Grew.refl _).alloc _
  generalize (wc.alloc (.cells #[.int .i64 h.op, .slice up1 h.sm.length uk1, .int .u32 h.si, .slice up2 h.tm.length uk2, .int .u32 h.ti] 34)) = wd at *
  generalize hlX12 : wc.heap.size = X12 at *
  have gbd := gbc.trans gd
  have hsa := arps16_c Hu' (HH.out.grew gbd)
  rw [show ((h.op == h.op) && decide (h.sm = h.sm) && (h.si == h.si) && decide (h.tm = h.tm) && (h.ti == h.ti)) = true by simp] at hsa
  have HSA := Lib.hid hsa
  have hC9 := hC.grew gbd
  clear hsa Hu Hu' gbc gb gc gd ga R9 R10 HC10 HE HB9 HX9
  have y0 := hX12.cell 0
  have y1 := hX12.cell 1
  have y2 := hX12.cell 2
  have y3 := hX12.cell 3
  have y4 := hX12.cell 4
  have z0 := hC9.cell 0
  have z1 := hC9.cell 1
  have z2 := hC9.cell 2
  have z3 := hC9.cell 3
  have z4 := hC9.cell 4
  go_wp2_with fail
  refine HSA.out.mono ?_
  rintro e we ⟨rfl, gf⟩
  go_wp2_with fail
  refine (heads_c ((G4.trans gbd).trans gf) (sn.grew ((G4.trans gbd).trans gf))).mono ?_
  rintro e wh ⟨rfl, gh⟩
  go_wp2_with fail
  go_ret
  exact ⟨rfl, gh⟩
theorem walk (v : Value) (f : FR) (u : Value) (h : AR) (z : Value) (xs : List Int) {W : World} (sw : SenW W) (hF : Fr W v f) (_ : f.d.length ≤ 140737488355328 ∧ f.s.length ≤ 140737488355328 ∧ f.x.length ≤ 140737488355328) (hH : Ar W u h) (_ : h.sm.length ≤ 140737488355328 ∧ h.tm.length ≤ 140737488355328) (hb : Buf W z xs) :
    Calls Tryd.prog 6 #[v, u, z] W fun e w' => e = .returned (.bool true) ∧ Below W.heap.size W w' := by
  obtain ⟨a0, a1, a2, sn⟩ := sw
  have hF' := hF
  have hH' := hH
  obtain ⟨p1, k1, p2, k2, p3, k3, rfl, _, _, _⟩ := hF'.shape
  obtain ⟨hp1, hk1, hp2, hk2, rfl, _, _⟩ := hH'.shape
  obtain ⟨a, c, rfl, _, _⟩ := hb.shape
  by_cases h1 : (3000 : Int) < (f.x.length : Nat)
  · exact walk_far a _ c sn (.inl h1)
  · by_cases h2 : (100 : Int) < (xs.length : Nat)
    · exact walk_far a _ c sn (.inr ⟨h1, h2⟩)
    · cases ok1 : okF f <;> cases ok2 : okA h
      · exact walk_00 a _ c xs sn h1 h2 ok1 ok2 hF hH hb
      · exact walk_01 a _ c xs sn h1 h2 ok1 ok2 hF hH hb
      · exact walk_10 a _ c xs sn h1 h2 ok1 ok2 hF hH hb
      · exact walk_11 a _ c xs sn h1 h2 ok1 ok2 hF hH hb
set_option maxRecDepth 100000 in
theorem lifted (os : Os) (started : os.Started) (H : Type) (enc : TypeId × Value → H) :
    ReturnsInHanded {} Tryd.checked os 6 .any (fun w args => (Rows.etherBackSpec.pre enc Tryd.prog Tryd.f6 [] false w args ∧ laidMetH Tryd.prog laid2 w) ∧ sizedMet enc Tryd.prog Tryd.f6 (OpenSpec.ofChange Rows.etherBackSpec) false w args) (Rows.etherBackSpec.post enc Tryd.prog Tryd.f6 false true false false) := by
  refine returnsInHanded_of_change_and (C := Tryd.checked) (X := fun w _ => laidMetH Tryd.prog laid2 w) (fun _ _ _ hh h => h.of_heap hh) own started (by kernel_rfl) Tryd.func6
    (ChangeSpec.witness_shaped (enc := enc) (C := Tryd.checked) (os := os) (X := fun w _ => laidMetH Tryd.prog laid2 w) false (World.doorLaid Tryd.prog 400 os) #[.agg #[.slice none 0 0, .slice none 0 0, .int .i64 0, .slice none 0 0], .agg #[.int .i64 0, .slice none 0 0, .int .u32 0, .slice none 0 0, .int .u32 0], .slice none 0 0] 8 rfl (World.shaped_of_RefB (by kernel_rfl) (by kernel_rfl)) (by kernel_rfl) (by kernel_rfl) (by kernel_rfl) (door_met os _)) ?_
  intro W base args ds gs before hval0 hW _ hz0 hL _
  obtain ⟨a0, a1, sn⟩ := sen_of_laid hL
  have hval : ∀ (j : Nat) t v, Tryd.f6.params[j]? = some t → args[j]? = some v → Value.okWide Tryd.prog W .any base t v := hval0
  have hW' := hW
  obtain ⟨p, q, hA0, hV, rfl, hfz, hnd⟩ := hW
  have hA : DataW.TrodAll enc Tryd.prog W 0 (fun _ => true) true Tryd.f6.params.toList args.toList ds p := hA0
  rw [Tryd.params6] at hA hval
  obtain ⟨v0, vs0, d0, ds0, p0, q0, hargs, rfl, rfl, h0, r'0⟩ := trodAll_cons hA
  obtain ⟨v1, vs1, d1, ds1, p1, q1, rfl, rfl, rfl, h1, r'1⟩ := trodAll_cons r'0
  obtain ⟨v2, vs2, d2, ds2, p2, q2, rfl, rfl, rfl, h2, r'2⟩ := trodAll_cons r'1
  obtain ⟨rfl, rfl, rfl⟩ := trodAll_nil r'2
  obtain rfl : args = #[v0, v1, v2] := by cases args; simp_all
  obtain ⟨f0, k0, z0⟩ := open_frame (hval 0 25 v0 rfl rfl) h0
  have fits0 := z0 (fun m hm => by simpa using List.all_eq_true.1 hz0 _ (DataW.weights_mem_each (j := 0) (t := 25) rfl rfl m hm))
  obtain ⟨f1, k1, z1⟩ := open_arp (hval 1 34 v1 rfl rfl) h1
  have fits1 := z1 (fun m hm => by simpa using List.all_eq_true.1 hz0 _ (DataW.weights_mem_each (j := 1) (t := 34) rfl rfl m hm))
  obtain ⟨x2, k2⟩ := open_buf Tryd.underlying22 Tryd.underlying5 (by kernel_rfl) (hval 2 22 v2 rfl rfl) h2
  refine (walk v0 f0 v1 f1 v2 x2 sn k0 fits0 k1 fits1 k2).mono fun e W' ⟨he, hb⟩ => ?_
  subst he
  exact ⟨_, rfl, law_post hW' rfl rfl laid (by kernel_rfl) rfl Tryd.underlying4 hb⟩

theorem over : Rows.etherBackRow.holds Tryd.pinned (OpenSpec.ofChange Rows.etherBackSpec) :=
  OpenClaim.holds_of_wide 6 Tryd.f6 rfl rfl rfl rfl rfl rfl rfl ⟨rfl, rfl, rfl, rfl, rfl⟩ rfl rfl rfl rfl rfl (by kernel_rfl) Tryd.func6 (by kernel_rfl)
    (of_decide_eq_true (by kernel_rfl)) (by unfold Func.isWrapper; first | (rw [if_pos (by decide +kernel)]; kernel_rfl) | (rw [if_neg (by decide +kernel)]; exact ⟨rfl, rfl⟩))
    (fun os started H enc _ => lifted os started H enc)

theorem proved : Rows.EtherBackCardSaid :=
  Claim7.holds_tied_plain_at .later [] Rows.etherBackCard.laidKinds true Rows.etherBackCard.stood.harness Rows.etherBackCard.stood.looks
    over (fun _ h => by cases h) (by kernel_rfl) (fun _ h => by cases h) etherBack_row_tie rfl ⟨rfl, rfl⟩ (by kernel_rfl) rfl
    (fun f fn hf hfn => by
      obtain rfl : f = 6 := Option.some.inj ((show Tryd.prog.funcNamed "drawbridge/drawbridgelaw16.EtherBack" = some 6 by kernel_rfl).symm.trans hf) |>.symm
      obtain rfl : fn = Tryd.f6 := (Option.some.inj (Tryd.func6.symm.trans hfn)).symm
      exact ⟨by kernel_rfl, fun j t ht => by
        have hall : (Tryd.f6.params.toList.all fun u => !Tryd.prog.wantsStandIn u) = true := by kernel_rfl
        have hm : t ∈ Tryd.f6.params.toList := by simpa using Array.mem_of_getElem? ht
        exact (show Tryd.prog.wantsStandIn t = false by simpa using List.all_eq_true.1 hall t hm)⟩)
    (by kernel_rfl)
#print axioms proved
end Go.Proofs.YtolfaelalmmefaaDoor.etherBack
