/-
  The statement EtherArps: which bytes messages are, which messages bytes, and what is answered, as the document's own answer says. For every message, bytes, hardware address, address. Conditions: none but those of the statement's row (the package variables as the text lays them).
-/
import Derived.Test.YtolfaelalmmefaaDoorEtK
import Derived.Test.YtolfaelalmmefaaDoorEtL
import Derived.Test.YtolfaelalmmefaaDoorCards
import Derived.Test.YtolfaelalmmefaaDoorTie
import Derived.SevenTiedAt
set_option maxRecDepth 4000
set_option linter.unusedVariables false
set_option linter.unusedSimpArgs false
namespace Go.Proofs.YtolfaelalmmefaaDoor.etherArps
open Go.ChangeShapes Go.WideShapes Go.ChangeAt Go.RowKit

theorem walk_far {f : AR} {p1 : Option Addr} {k1 : Nat} {p2 : Option Addr} {k2 : Nat} (a : Option Addr) (n c : Nat) (pm : Option Addr) (m km : Nat) (ip : Int) {W : World} {a0 a1 a2 : Addr} (sn : Sen W a0 a1 a2) (h1 : (3000 : Int) < (n : Nat)) :
    Calls Tryd.prog 5 #[.agg #[.int .i64 f.op, .slice p1 f.sm.length k1, .int .u32 f.si, .slice p2 f.tm.length k2, .int .u32 f.ti], .slice a n c, .slice pm m km, .int .u32 ip] W fun e w' => e = .returned (.bool true) ∧ Below W.heap.size W w' := by
  go_enter Tryd.func5, Tryd.ntmps5
  go_upto_region 1 with fail
  have hB : Blk (W.alloc (.cells #[.int .i64 f.op, .slice p1 f.sm.length k1, .int .u32 f.si, .slice p2 f.tm.length k2, .int .u32 f.ti] 34)) W.heap.size #[.int .i64 f.op, .slice p1 f.sm.length k1, .int .u32 f.si, .slice p2 f.tm.length k2, .int .u32 f.ti] 34 := Blk.new _ _ _ _ rfl
  have g0 : Grew W (W.alloc (.cells #[.int .i64 f.op, .slice p1 f.sm.length k1, .int .u32 f.si, .slice p2 f.tm.length k2, .int .u32 f.ti] 34)) := (Grew.refl _).alloc _
  generalize (W.alloc (.cells #[.int .i64 f.op, .slice p1 f.sm.length k1, .int .u32 f.si, .slice p2 f.tm.length k2, .int .u32 f.ti] 34)) = w0 at *
  generalize hlB : W.heap.size = B at *
  go_wp2_with fail
  refine (heads_c (g0) (sn.grew (g0))).mono ?_
  rintro e wh ⟨rfl, gh⟩
  go_wp2_with fail
  go_ret
  exact ⟨rfl, gh⟩
set_option maxHeartbeats 4000000 in
theorem walk_near {f : AR} {p1 : Option Addr} {k1 : Nat} {p2 : Option Addr} {k2 : Nat} (a : Option Addr) (n c : Nat) (xs : List Int) (pm : Option Addr) (m km : Nat) (ms : List Int) (ip : Int) (hip : u32I ip) (hlm : ms.length ≤ 140737488355328) (hls : f.sm.length ≤ 140737488355328) {W : World} {a0 a1 a2 : Addr} (sn : Sen W a0 a1 a2) (h1 : ¬ ((3000 : Int) < (n : Nat))) (hF : Ar W (.agg #[.int .i64 f.op, .slice p1 f.sm.length k1, .int .u32 f.si, .slice p2 f.tm.length k2, .int .u32 f.ti]) f) (hb : Buf W (.slice a n c) xs) (hm : Buf W (.slice pm m km) ms) :
    Calls Tryd.prog 5 #[.agg #[.int .i64 f.op, .slice p1 f.sm.length k1, .int .u32 f.si, .slice p2 f.tm.length k2, .int .u32 f.ti], .slice a n c, .slice pm m km, .int .u32 ip] W fun e w' => e = .returned (.bool true) ∧ Below W.heap.size W w' := by
  have HLM := Lib.hid hlm
  have HLS := Lib.hid hls
  have HF0 := Lib.hid hF
  have HX0 := Lib.hid hb
  have HM0 := Lib.hid hm
  have HIP := Lib.hid hip
  clear hF hb hm hlm hls hip
  go_enter Tryd.func5, Tryd.ntmps5
  go_upto_region 1 with fail
  have hB : Blk (W.alloc (.cells #[.int .i64 f.op, .slice p1 f.sm.length k1, .int .u32 f.si, .slice p2 f.tm.length k2, .int .u32 f.ti] 34)) W.heap.size #[.int .i64 f.op, .slice p1 f.sm.length k1, .int .u32 f.si, .slice p2 f.tm.length k2, .int .u32 f.ti] 34 := Blk.new _ _ _ _ rfl
  have g0 : Grew W (W.alloc (.cells #[.int .i64 f.op, .slice p1 f.sm.length k1, .int .u32 f.si, .slice p2 f.tm.length k2, .int .u32 f.ti] 34)) := (Grew.refl _).alloc _
  generalize (W.alloc (.cells #[.int .i64 f.op, .slice p1 f.sm.length k1, .int .u32 f.si, .slice p2 f.tm.length k2, .int .u32 f.ti] 34)) = w0 at *
  generalize hlB : W.heap.size = B at *
  have HF := Lib.hid (HF0.out.grew g0)
  have HX := Lib.hid (HX0.out.grew g0)
  have HM := Lib.hid (HM0.out.grew g0)
  have y0 := hB.cell 0
  have y1 := hB.cell 1
  have y2 := hB.cell 2
  have y3 := hB.cell 3
  have y4 := hB.cell 4
  go_wp2_with fail
  refine (PutArp_c HF.out).mono ?_
  rintro e w1 ⟨ua, rfl, Ha, g1⟩
  obtain ⟨pa, ka, rfl, _, _⟩ := Ha.shape
  replace HF := Lib.hid (HF.out.grew g1)
  replace HX := Lib.hid (HX.out.grew g1)
  replace HM := Lib.hid (HM.out.grew g1)
  replace hB := hB.grew g1
  replace Ha := Lib.hid Ha
  have G1 := g0.trans g1
  clear g1
  clear y0 y1 y2 y3 y4
  have y0 := hB.cell 0
  have y1 := hB.cell 1
  have y2 := hB.cell 2
  have y3 := hB.cell 3
  have y4 := hB.cell 4
  go_wp2_with fail
  refine (refPutA16_c HF.out).mono ?_
  rintro e w2 ⟨ub, rfl, Hb, g2⟩
  obtain ⟨pb, kb, rfl, _, _⟩ := Hb.shape
  replace HF := Lib.hid (HF.out.grew g2)
  replace HX := Lib.hid (HX.out.grew g2)
  replace HM := Lib.hid (HM.out.grew g2)
  replace Ha := Lib.hid (Ha.out.grew g2)
  replace hB := hB.grew g2
  replace Hb := Lib.hid Hb
  have G2 := G1.trans g2
  clear g2
  clear y0 y1 y2 y3 y4
  go_wp2_with fail
  refine (GetArp_c (sn.grew G2) HX.out).mono ?_
  rintro e w3 ⟨uv, rfl, Hv, g3⟩
  have Ev := Hv.shape
  obtain ⟨vp1, vk1, vp2, vk2, rfl, _, _⟩ := Ev
  replace HF := Lib.hid (HF.out.grew g3)
  replace HX := Lib.hid (HX.out.grew g3)
  replace HM := Lib.hid (HM.out.grew g3)
  replace Ha := Lib.hid (Ha.out.grew g3)
  replace Hb := Lib.hid (Hb.out.grew g3)
  replace hB := hB.grew g3
  replace Hv := Lib.hid Hv
  have G3 := G2.trans g3
  clear g3
  go_upto_region 6 with fail
  have g4 : Grew w3 (w3.alloc (.cells #[.int .i64 (getA xs).op, .slice vp1 (getA xs).sm.length vk1, .int .u32 (getA xs).si, .slice vp2 (getA xs).tm.length vk2, .int .u32 (getA xs).ti] 34)) := (Grew.refl _).alloc _
  have hX13 : Blk (w3.alloc (.cells #[.int .i64 (getA xs).op, .slice vp1 (getA xs).sm.length vk1, .int .u32 (getA xs).si, .slice vp2 (getA xs).tm.length vk2, .int .u32 (getA xs).ti] 34)) w3.heap.size #[.int .i64 (getA xs).op, .slice vp1 (getA xs).sm.length vk1, .int .u32 (getA xs).si, .slice vp2 (getA xs).tm.length vk2, .int .u32 (getA xs).ti] 34 := Blk.new _ _ _ _ rfl
  replace HF := Lib.hid (HF.out.grew g4)
  replace HX := Lib.hid (HX.out.grew g4)
  replace HM := Lib.hid (HM.out.grew g4)
  replace Ha := Lib.hid (Ha.out.grew g4)
  replace Hb := Lib.hid (Hb.out.grew g4)
  replace Hv := Lib.hid (Hv.out.grew g4)
  replace hB := hB.grew g4
  have G4 := G3.trans g4
  clear g4
  generalize (w3.alloc (.cells #[.int .i64 (getA xs).op, .slice vp1 (getA xs).sm.length vk1, .int .u32 (getA xs).si, .slice vp2 (getA xs).tm.length vk2, .int .u32 (getA xs).ti] 34)) = w4 at *
  generalize w3.heap.size = X13 at *
  go_wp2_with fail
  refine (refGetA16_c HX.out).mono ?_
  rintro e w5 ⟨uw, rfl, Hw, g5⟩
  have Ew := Hw.shape
  obtain ⟨wp1, wk1, wp2, wk2, rfl, _, _⟩ := Ew
  replace HF := Lib.hid (HF.out.grew g5)
  replace HX := Lib.hid (HX.out.grew g5)
  replace HM := Lib.hid (HM.out.grew g5)
  replace Ha := Lib.hid (Ha.out.grew g5)
  replace Hb := Lib.hid (Hb.out.grew g5)
  replace Hv := Lib.hid (Hv.out.grew g5)
  replace hB := hB.grew g5
  replace hX13 := hX13.grew g5
  replace Hw := Lib.hid Hw
  have G5 := G4.trans g5
  clear g5
  go_upto_region 7 with fail
  have g6 : Grew w5 (w5.alloc (.cells #[.int .i64 (getA xs).op, .slice wp1 (getA xs).sm.length wk1, .int .u32 (getA xs).si, .slice wp2 (getA xs).tm.length wk2, .int .u32 (getA xs).ti] 34)) := (Grew.refl _).alloc _
  have hX15 : Blk (w5.alloc (.cells #[.int .i64 (getA xs).op, .slice wp1 (getA xs).sm.length wk1, .int .u32 (getA xs).si, .slice wp2 (getA xs).tm.length wk2, .int .u32 (getA xs).ti] 34)) w5.heap.size #[.int .i64 (getA xs).op, .slice wp1 (getA xs).sm.length wk1, .int .u32 (getA xs).si, .slice wp2 (getA xs).tm.length wk2, .int .u32 (getA xs).ti] 34 := Blk.new _ _ _ _ rfl
  replace HF := Lib.hid (HF.out.grew g6)
  replace HX := Lib.hid (HX.out.grew g6)
  replace HM := Lib.hid (HM.out.grew g6)
  replace Ha := Lib.hid (Ha.out.grew g6)
  replace Hb := Lib.hid (Hb.out.grew g6)
  replace Hv := Lib.hid (Hv.out.grew g6)
  replace Hw := Lib.hid (Hw.out.grew g6)
  replace hB := hB.grew g6
  replace hX13 := hX13.grew g6
  have G6 := G5.trans g6
  clear g6
  generalize (w5.alloc (.cells #[.int .i64 (getA xs).op, .slice wp1 (getA xs).sm.length wk1, .int .u32 (getA xs).si, .slice wp2 (getA xs).tm.length wk2, .int .u32 (getA xs).ti] 34)) = w6 at *
  generalize w5.heap.size = X15 at *
  have y0 := hB.cell 0
  have y1 := hB.cell 1
  have y2 := hB.cell 2
  have y3 := hB.cell 3
  have y4 := hB.cell 4
  go_wp2_with fail
  refine (Answer_c HIP.out HLM.out HLS.out HF.out HM.out).mono ?_
  rintro e w7 ⟨us, rfl, Hs, g7⟩
  have Es := Hs.shape
  obtain ⟨sp1, sk1, sp2, sk2, rfl, _, _⟩ := Es
  replace HF := Lib.hid (HF.out.grew g7)
  replace HX := Lib.hid (HX.out.grew g7)
  replace HM := Lib.hid (HM.out.grew g7)
  replace Ha := Lib.hid (Ha.out.grew g7)
  replace Hb := Lib.hid (Hb.out.grew g7)
  replace Hv := Lib.hid (Hv.out.grew g7)
  replace Hw := Lib.hid (Hw.out.grew g7)
  replace hB := hB.grew g7
  replace hX13 := hX13.grew g7
  replace hX15 := hX15.grew g7
  replace Hs := Lib.hid Hs
  have G7 := G6.trans g7
  clear g7
  go_upto_region 8 with fail
  have g8 : Grew w7 (w7.alloc (.cells #[.int .i64 (ansA f ms ip).op, .slice sp1 (ansA f ms ip).sm.length sk1, .int .u32 (ansA f ms ip).si, .slice sp2 (ansA f ms ip).tm.length sk2, .int .u32 (ansA f ms ip).ti] 34)) := (Grew.refl _).alloc _
  have hX17 : Blk (w7.alloc (.cells #[.int .i64 (ansA f ms ip).op, .slice sp1 (ansA f ms ip).sm.length sk1, .int .u32 (ansA f ms ip).si, .slice sp2 (ansA f ms ip).tm.length sk2, .int .u32 (ansA f ms ip).ti] 34)) w7.heap.size #[.int .i64 (ansA f ms ip).op, .slice sp1 (ansA f ms ip).sm.length sk1, .int .u32 (ansA f ms ip).si, .slice sp2 (ansA f ms ip).tm.length sk2, .int .u32 (ansA f ms ip).ti] 34 := Blk.new _ _ _ _ rfl
  replace HF := Lib.hid (HF.out.grew g8)
  replace HX := Lib.hid (HX.out.grew g8)
  replace HM := Lib.hid (HM.out.grew g8)
  replace Ha := Lib.hid (Ha.out.grew g8)
  replace Hb := Lib.hid (Hb.out.grew g8)
  replace Hv := Lib.hid (Hv.out.grew g8)
  replace Hw := Lib.hid (Hw.out.grew g8)
  replace Hs := Lib.hid (Hs.out.grew g8)
  replace hB := hB.grew g8
  replace hX13 := hX13.grew g8
  replace hX15 := hX15.grew g8
  have G8 := G7.trans g8
  clear g8
  generalize (w7.alloc (.cells #[.int .i64 (ansA f ms ip).op, .slice sp1 (ansA f ms ip).sm.length sk1, .int .u32 (ansA f ms ip).si, .slice sp2 (ansA f ms ip).tm.length sk2, .int .u32 (ansA f ms ip).ti] 34)) = w8 at *
  generalize w7.heap.size = X17 at *
  clear y0 y1 y2 y3 y4
  have y0 := hB.cell 0
  have y1 := hB.cell 1
  have y2 := hB.cell 2
  have y3 := hB.cell 3
  have y4 := hB.cell 4
  go_wp2_with fail
  refine (refAnswer_c HIP.out HLM.out HLS.out HF.out HM.out).mono ?_
  rintro e w9 ⟨ut, rfl, Ht, g9⟩
  have Et := Ht.shape
  obtain ⟨tp1, tk1, tp2, tk2, rfl, _, _⟩ := Et
  replace HF := Lib.hid (HF.out.grew g9)
  replace HX := Lib.hid (HX.out.grew g9)
  replace HM := Lib.hid (HM.out.grew g9)
  replace Ha := Lib.hid (Ha.out.grew g9)
  replace Hb := Lib.hid (Hb.out.grew g9)
  replace Hv := Lib.hid (Hv.out.grew g9)
  replace Hw := Lib.hid (Hw.out.grew g9)
  replace Hs := Lib.hid (Hs.out.grew g9)
  replace hB := hB.grew g9
  replace hX13 := hX13.grew g9
  replace hX15 := hX15.grew g9
  replace hX17 := hX17.grew g9
  replace Ht := Lib.hid Ht
  have G9 := G8.trans g9
  clear g9
  go_upto_region 9 with fail
  have g10 : Grew w9 (w9.alloc (.cells #[.int .i64 (ansA f ms ip).op, .slice tp1 (ansA f ms ip).sm.length tk1, .int .u32 (ansA f ms ip).si, .slice tp2 (ansA f ms ip).tm.length tk2, .int .u32 (ansA f ms ip).ti] 34)) := (Grew.refl _).alloc _
  have hX19 : Blk (w9.alloc (.cells #[.int .i64 (ansA f ms ip).op, .slice tp1 (ansA f ms ip).sm.length tk1, .int .u32 (ansA f ms ip).si, .slice tp2 (ansA f ms ip).tm.length tk2, .int .u32 (ansA f ms ip).ti] 34)) w9.heap.size #[.int .i64 (ansA f ms ip).op, .slice tp1 (ansA f ms ip).sm.length tk1, .int .u32 (ansA f ms ip).si, .slice tp2 (ansA f ms ip).tm.length tk2, .int .u32 (ansA f ms ip).ti] 34 := Blk.new _ _ _ _ rfl
  replace HF := Lib.hid (HF.out.grew g10)
  replace HX := Lib.hid (HX.out.grew g10)
  replace HM := Lib.hid (HM.out.grew g10)
  replace Ha := Lib.hid (Ha.out.grew g10)
  replace Hb := Lib.hid (Hb.out.grew g10)
  replace Hv := Lib.hid (Hv.out.grew g10)
  replace Hw := Lib.hid (Hw.out.grew g10)
  replace Hs := Lib.hid (Hs.out.grew g10)
  replace Ht := Lib.hid (Ht.out.grew g10)
  replace hB := hB.grew g10
  replace hX13 := hX13.grew g10
  replace hX15 := hX15.grew g10
  replace hX17 := hX17.grew g10
  have G10 := G9.trans g10
  clear g10
  generalize (w9.alloc (.cells #[.int .i64 (ansA f ms ip).op, .slice tp1 (ansA f ms ip).sm.length tk1, .int .u32 (ansA f ms ip).si, .slice tp2 (ansA f ms ip).tm.length tk2, .int .u32 (ansA f ms ip).ti] 34)) = w10 at *
  generalize w9.heap.size = X19 at *
  clear y0 y1 y2 y3 y4
  have hsm := sameB_c w10 Ha.out Hb.out
  rw [decide_eq_true rfl] at hsm
  have HS := Lib.hid hsm
  have HSV := Lib.hid (fun w' (g : Grew w10 w') => arps16_c (Hv.out.grew g) (Hw.out.grew g))
  have HST := Lib.hid (fun w' (g : Grew w10 w') => arps16_c (Hs.out.grew g) (Ht.out.grew g))
  rw [show ∀ x : AR, ((x.op == x.op) && decide (x.sm = x.sm) && (x.si == x.si) && decide (x.tm = x.tm) && (x.ti == x.ti)) = true from fun x => by simp] at HSV HST
  have e1 : (putAE f == putAE f) = true := by simp
  have e2 : (getAE xs == getAE xs) = true := by simp
  have e3 : (asks f ms ip == asks f ms ip) = true := by simp
  clear hsm
  have y0 := hX13.cell 0
  have y1 := hX13.cell 1
  have y2 := hX13.cell 2
  have y3 := hX13.cell 3
  have y4 := hX13.cell 4
  have z0 := hX15.cell 0
  have z1 := hX15.cell 1
  have z2 := hX15.cell 2
  have z3 := hX15.cell 3
  have z4 := hX15.cell 4
  go_wp2_with fail
  refine HS.out.mono ?_
  rintro e wi ⟨rfl, hi⟩
  obtain rfl := hi.symm
  go_wp2_with fail
  refine (HSV.out _ (Grew.refl _)).mono ?_
  rintro e wj ⟨rfl, gj⟩
  clear y0 y1 y2 y3 y4 z0 z1 z2 z3 z4
  have hX17' := hX17.grew gj
  have hX19' := hX19.grew gj
  have y0 := hX17'.cell 0
  have y1 := hX17'.cell 1
  have y2 := hX17'.cell 2
  have y3 := hX17'.cell 3
  have y4 := hX17'.cell 4
  have z0 := hX19'.cell 0
  have z1 := hX19'.cell 1
  have z2 := hX19'.cell 2
  have z3 := hX19'.cell 3
  have z4 := hX19'.cell 4
  go_wp2_with fail
  refine (HST.out _ gj).mono ?_
  rintro e wk ⟨rfl, gk⟩
  go_wp2_with fail
  refine (heads_c ((G10.trans gj).trans gk) (sn.grew ((G10.trans gj).trans gk))).mono ?_
  rintro e wh ⟨rfl, gh⟩
  go_wp2_with fail
  go_ret
  exact ⟨rfl, gh⟩
theorem walk (v : Value) (f : AR) (u : Value) (xs : List Int) (z : Value) (ms : List Int) (ip : Int) (hip : 0 ≤ ip ∧ ip < 4294967296) {W : World} (sw : SenW W) (hF : Ar W v f) (hft : f.sm.length ≤ 140737488355328 ∧ f.tm.length ≤ 140737488355328) (hb : Buf W u xs) (hm : Buf W z ms) (hlm : ms.length ≤ 140737488355328) :
    Calls Tryd.prog 5 #[v, u, z, .int .u32 ip] W fun e w' => e = .returned (.bool true) ∧ Below W.heap.size W w' := by
  obtain ⟨a0, a1, a2, sn⟩ := sw
  have hF' := hF
  obtain ⟨p1, k1, p2, k2, rfl, _, _⟩ := hF'.shape
  obtain ⟨a, c, rfl, _, _⟩ := hb.shape
  obtain ⟨pm, km, rfl, _, _⟩ := hm.shape
  by_cases h1 : (3000 : Int) < (xs.length : Nat)
  · exact walk_far a _ c pm _ km ip sn h1
  · exact walk_near a _ c xs pm _ km ms ip hip hlm hft.1 sn h1 hF hb hm
set_option maxRecDepth 100000 in
theorem lifted (os : Os) (started : os.Started) (H : Type) (enc : TypeId × Value → H) :
    ReturnsInHanded {} Tryd.checked os 5 .any (fun w args => (Rows.etherArpsSpec.pre enc Tryd.prog Tryd.f5 [] false w args ∧ laidMetH Tryd.prog laid2 w) ∧ sizedMet enc Tryd.prog Tryd.f5 (OpenSpec.ofChange Rows.etherArpsSpec) false w args) (Rows.etherArpsSpec.post enc Tryd.prog Tryd.f5 false true false false) := by
  refine returnsInHanded_of_change_and (C := Tryd.checked) (X := fun w _ => laidMetH Tryd.prog laid2 w) (fun _ _ _ hh h => h.of_heap hh) own started (by kernel_rfl) Tryd.func5
    (ChangeSpec.witness_shaped (enc := enc) (C := Tryd.checked) (os := os) (X := fun w _ => laidMetH Tryd.prog laid2 w) false (World.doorLaid Tryd.prog 400 os) #[.agg #[.int .i64 0, .slice none 0 0, .int .u32 0, .slice none 0 0, .int .u32 0], .slice none 0 0, .slice none 0 0, .int .u32 0] 8 rfl (World.shaped_of_RefB (by kernel_rfl) (by kernel_rfl)) (by kernel_rfl) (by kernel_rfl) (by kernel_rfl) (door_met os _)) ?_
  intro W base args ds gs before hval0 hW _ hz0 hL _
  obtain ⟨a0, a1, sn⟩ := sen_of_laid hL
  have hval : ∀ (j : Nat) t v, Tryd.f5.params[j]? = some t → args[j]? = some v → Value.okWide Tryd.prog W .any base t v := hval0
  have hW' := hW
  obtain ⟨p, q, hA0, hV, rfl, hfz, hnd⟩ := hW
  have hA : DataW.TrodAll enc Tryd.prog W 0 (fun _ => true) true Tryd.f5.params.toList args.toList ds p := hA0
  rw [Tryd.params5] at hA hval
  obtain ⟨v0, vs0, d0, ds0, p0, q0, hargs, rfl, rfl, h0, r'0⟩ := trodAll_cons hA
  obtain ⟨v1, vs1, d1, ds1, p1, q1, rfl, rfl, rfl, h1, r'1⟩ := trodAll_cons r'0
  obtain ⟨v2, vs2, d2, ds2, p2, q2, rfl, rfl, rfl, h2, r'2⟩ := trodAll_cons r'1
  obtain ⟨v3, vs3, d3, ds3, p3, q3, rfl, rfl, rfl, h3, r'3⟩ := trodAll_cons r'2
  obtain ⟨rfl, rfl, rfl⟩ := trodAll_nil r'3
  obtain rfl : args = #[v0, v1, v2, v3] := by cases args; simp_all
  obtain ⟨f0, k0, z0⟩ := open_arp (hval 0 34 v0 rfl rfl) h0
  have fits0 := z0 (fun m hm => by simpa using List.all_eq_true.1 hz0 _ (DataW.weights_mem_each (j := 0) (t := 34) rfl rfl m hm))
  obtain ⟨x1, k1⟩ := open_buf Tryd.underlying22 Tryd.underlying5 (by kernel_rfl) (hval 1 22 v1 rfl rfl) h1
  obtain ⟨x2, k2, z2⟩ := open_buf_w (hval 2 22 v2 rfl rfl) h2
  have fits2 := z2 (fun m hm => by simpa using List.all_eq_true.1 hz0 _ (DataW.weights_mem_each (j := 2) (t := 22) rfl rfl m hm))
  obtain ⟨a3, rfl, rfl, rfl, w3⟩ := open_int Tryd.underlying32 (hval 3 32 v3 rfl rfl) h3
  refine (walk v0 f0 v1 x1 v2 x2 a3 (wf_u32 w3) sn k0 fits0 k1 k2 fits2).mono fun e W' ⟨he, hb⟩ => ?_
  subst he
  exact ⟨_, rfl, law_post hW' rfl rfl laid (by kernel_rfl) rfl Tryd.underlying4 hb⟩

theorem over : Rows.etherArpsRow.holds Tryd.pinned (OpenSpec.ofChange Rows.etherArpsSpec) :=
  OpenClaim.holds_of_wide 5 Tryd.f5 rfl rfl rfl rfl rfl rfl rfl ⟨rfl, rfl, rfl, rfl, rfl⟩ rfl rfl rfl rfl rfl (by kernel_rfl) Tryd.func5 (by kernel_rfl)
    (of_decide_eq_true (by kernel_rfl)) (by unfold Func.isWrapper; first | (rw [if_pos (by decide +kernel)]; kernel_rfl) | (rw [if_neg (by decide +kernel)]; exact ⟨rfl, rfl⟩))
    (fun os started H enc _ => lifted os started H enc)

theorem proved : Rows.EtherArpsCardSaid :=
  Claim7.holds_tied_plain_at .later [] Rows.etherArpsCard.laidKinds true Rows.etherArpsCard.stood.harness Rows.etherArpsCard.stood.looks
    over (fun _ h => by cases h) (by kernel_rfl) (fun _ h => by cases h) etherArps_row_tie rfl ⟨rfl, rfl⟩ (by kernel_rfl) rfl
    (fun f fn hf hfn => by
      obtain rfl : f = 5 := Option.some.inj ((show Tryd.prog.funcNamed "drawbridge/drawbridgelaw16.EtherArps" = some 5 by kernel_rfl).symm.trans hf) |>.symm
      obtain rfl : fn = Tryd.f5 := (Option.some.inj (Tryd.func5.symm.trans hfn)).symm
      exact ⟨by kernel_rfl, fun j t ht => by
        have hall : (Tryd.f5.params.toList.all fun u => !Tryd.prog.wantsStandIn u) = true := by kernel_rfl
        have hm : t ∈ Tryd.f5.params.toList := by simpa using Array.mem_of_getElem? ht
        exact (show Tryd.prog.wantsStandIn t = false by simpa using List.all_eq_true.1 hall t hm)⟩)
    (by kernel_rfl)
#print axioms proved
end Go.Proofs.YtolfaelalmmefaaDoor.etherArps
