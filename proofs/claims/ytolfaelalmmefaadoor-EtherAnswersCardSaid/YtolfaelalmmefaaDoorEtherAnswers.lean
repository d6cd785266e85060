/-
  The statement EtherAnswers: that just who asks for the address is answered, and that an answer is not answered again. For every message, hardware address, address. Conditions: none but those of the statement's row (the package variables as the text lays them).
-/
import Derived.Test.YtolfaelalmmefaaDoorEtK
import Derived.Test.YtolfaelalmmefaaDoorEtL
import Derived.Test.YtolfaelalmmefaaDoorCards
import Derived.Test.YtolfaelalmmefaaDoorTie
import Derived.SevenTiedAt
set_option maxRecDepth 4000
set_option linter.unusedVariables false
set_option linter.unusedSimpArgs false
namespace Go.Proofs.YtolfaelalmmefaaDoor.etherAnswers
open Go.ChangeShapes Go.WideShapes Go.ChangeAt Go.RowKit

set_option maxHeartbeats 4000000 in
theorem walk_0 {f : AR} {p1 : Option Addr} {k1 : Nat} {p2 : Option Addr} {k2 : Nat} (pm : Option Addr) (m km : Nat) (ms : List Int) (ip : Int) (hip : u32I ip) (hlm : ms.length ≤ 140737488355328) (hls : f.sm.length ≤ 140737488355328) (q1 : (f.op == 1) = false) {W : World} {a0 a1 a2 : Addr} (sn : Sen W a0 a1 a2) (hF : Ar W (.agg #[.int .i64 f.op, .slice p1 f.sm.length k1, .int .u32 f.si, .slice p2 f.tm.length k2, .int .u32 f.ti]) f) (hm : Buf W (.slice pm m km) ms) :
    Calls Tryd.prog 7 #[.agg #[.int .i64 f.op, .slice p1 f.sm.length k1, .int .u32 f.si, .slice p2 f.tm.length k2, .int .u32 f.ti], .slice pm m km, .int .u32 ip] W fun e w' => e = .returned (.bool true) ∧ Below W.heap.size W w' := by
  have HLM := Lib.hid hlm
  have HLS := Lib.hid hls
  have HF0 := Lib.hid hF
  have HM0 := Lib.hid hm
  have HIP := Lib.hid hip
  have hn := hm.lenEq.1
  have hk : asks f ms ip = false := by unfold asks; simp at q1; exact decide_eq_false (by omega)
  have ha : ansA f ms ip = zA := by unfold ansA; rw [hk]; rfl
  have HK := Lib.hid hk
  have HA := Lib.hid ha
  have HN := Lib.hid hn
  clear hF hm hlm hls hip hk ha hn
  go_enter Tryd.func7, Tryd.ntmps7
  go_upto_region 1 with fail
  have hB : Blk (W.alloc (.cells #[.int .i64 f.op, .slice p1 f.sm.length k1, .int .u32 f.si, .slice p2 f.tm.length k2, .int .u32 f.ti] 34)) W.heap.size #[.int .i64 f.op, .slice p1 f.sm.length k1, .int .u32 f.si, .slice p2 f.tm.length k2, .int .u32 f.ti] 34 := Blk.new _ _ _ _ rfl
  have g0 : Grew W (W.alloc (.cells #[.int .i64 f.op, .slice p1 f.sm.length k1, .int .u32 f.si, .slice p2 f.tm.length k2, .int .u32 f.ti] 34)) := (Grew.refl _).alloc _
  generalize (W.alloc (.cells #[.int .i64 f.op, .slice p1 f.sm.length k1, .int .u32 f.si, .slice p2 f.tm.length k2, .int .u32 f.ti] 34)) = w0 at *
  generalize hlB : W.heap.size = B at *
  have HF := Lib.hid (HF0.out.grew g0)
  have HM := Lib.hid (HM0.out.grew g0)
  have y0 := hB.cell 0
  have y1 := hB.cell 1
  have y2 := hB.cell 2
  have y3 := hB.cell 3
  have y4 := hB.cell 4
  go_wp2_with fail
  refine (Answer_c HIP.out HLM.out HLS.out HF.out HM.out).mono ?_
  rintro e w1 ⟨us, rfl, Hs, g1⟩
  rw [HA.out] at Hs
  rw [HK.out]
  have Es := Hs.shape
  obtain ⟨sp1, sk1, sp2, sk2, rfl, _, _⟩ := Es
  replace HF := Lib.hid (HF.out.grew g1)
  replace HM := Lib.hid (HM.out.grew g1)
  replace hB := hB.grew g1
  replace Hs := Lib.hid Hs
  have G1 := g0.trans g1
  clear g1
  go_upto_region 2 with fail
  have g2 : Grew w1 (w1.alloc (.cells #[.int .i64 zA.op, .slice sp1 zA.sm.length sk1, .int .u32 zA.si, .slice sp2 zA.tm.length sk2, .int .u32 zA.ti] 34)) := (Grew.refl _).alloc _
  have hX7 : Blk (w1.alloc (.cells #[.int .i64 zA.op, .slice sp1 zA.sm.length sk1, .int .u32 zA.si, .slice sp2 zA.tm.length sk2, .int .u32 zA.ti] 34)) w1.heap.size #[.int .i64 zA.op, .slice sp1 zA.sm.length sk1, .int .u32 zA.si, .slice sp2 zA.tm.length sk2, .int .u32 zA.ti] 34 := Blk.new _ _ _ _ rfl
  replace HF := Lib.hid (HF.out.grew g2)
  replace HM := Lib.hid (HM.out.grew g2)
  replace Hs := Lib.hid (Hs.out.grew g2)
  replace hB := hB.grew g2
  have G2 := G1.trans g2
  clear g2
  generalize (w1.alloc (.cells #[.int .i64 zA.op, .slice sp1 zA.sm.length sk1, .int .u32 zA.si, .slice sp2 zA.tm.length sk2, .int .u32 zA.ti] 34)) = w2 at *
  generalize w1.heap.size = X7 at *
  clear y0 y1 y2 y3 y4
  have y0 := hB.cell 0
  have y1 := hB.cell 1
  have y2 := hB.cell 2
  have y3 := hB.cell 3
  have y4 := hB.cell 4
  have HZ := Lib.hid (arps16_c Hs.out (Ar.zero w2))
  have z0 := hX7.cell 0
  have z1 := hX7.cell 1
  have z2 := hX7.cell 2
  have z3 := hX7.cell 3
  have z4 := hX7.cell 4
  go_wp2_with fail
  refine HZ.out.mono ?_
  rintro e wi ⟨rfl, gi⟩
  go_wp2_with fail
  refine (heads_c (G2.trans gi) (sn.grew (G2.trans gi))).mono ?_
  rintro e wh ⟨rfl, gh⟩
  go_wp2_with fail
  go_ret
  exact ⟨rfl, gh⟩
set_option maxHeartbeats 4000000 in
theorem walk_1 {f : AR} {p1 : Option Addr} {k1 : Nat} {p2 : Option Addr} {k2 : Nat} (pm : Option Addr) (m km : Nat) (ms : List Int) (ip : Int) (hip : u32I ip) (hlm : ms.length ≤ 140737488355328) (hls : f.sm.length ≤ 140737488355328) (q1 : (f.op == 1) = true) (q2 : (f.ti == ip) = false) {W : World} {a0 a1 a2 : Addr} (sn : Sen W a0 a1 a2) (hF : Ar W (.agg #[.int .i64 f.op, .slice p1 f.sm.length k1, .int .u32 f.si, .slice p2 f.tm.length k2, .int .u32 f.ti]) f) (hm : Buf W (.slice pm m km) ms) :
    Calls Tryd.prog 7 #[.agg #[.int .i64 f.op, .slice p1 f.sm.length k1, .int .u32 f.si, .slice p2 f.tm.length k2, .int .u32 f.ti], .slice pm m km, .int .u32 ip] W fun e w' => e = .returned (.bool true) ∧ Below W.heap.size W w' := by
  have HLM := Lib.hid hlm
  have HLS := Lib.hid hls
  have HF0 := Lib.hid hF
  have HM0 := Lib.hid hm
  have HIP := Lib.hid hip
  have hn := hm.lenEq.1
  have hk : asks f ms ip = false := by unfold asks; simp at q1 q2; exact decide_eq_false (by omega)
  have ha : ansA f ms ip = zA := by unfold ansA; rw [hk]; rfl
  have HK := Lib.hid hk
  have HA := Lib.hid ha
  have HN := Lib.hid hn
  clear hF hm hlm hls hip hk ha hn
  go_enter Tryd.func7, Tryd.ntmps7
  go_upto_region 1 with fail
  have hB : Blk (W.alloc (.cells #[.int .i64 f.op, .slice p1 f.sm.length k1, .int .u32 f.si, .slice p2 f.tm.length k2, .int .u32 f.ti] 34)) W.heap.size #[.int .i64 f.op, .slice p1 f.sm.length k1, .int .u32 f.si, .slice p2 f.tm.length k2, .int .u32 f.ti] 34 := Blk.new _ _ _ _ rfl
  have g0 : Grew W (W.alloc (.cells #[.int .i64 f.op, .slice p1 f.sm.length k1, .int .u32 f.si, .slice p2 f.tm.length k2, .int .u32 f.ti] 34)) := (Grew.refl _).alloc _
  generalize (W.alloc (.cells #[.int .i64 f.op, .slice p1 f.sm.length k1, .int .u32 f.si, .slice p2 f.tm.length k2, .int .u32 f.ti] 34)) = w0 at *
  generalize hlB : W.heap.size = B at *
  have HF := Lib.hid (HF0.out.grew g0)
  have HM := Lib.hid (HM0.out.grew g0)
  have y0 := hB.cell 0
  have y1 := hB.cell 1
  have y2 := hB.cell 2
  have y3 := hB.cell 3
  have y4 := hB.cell 4
  go_wp2_with fail
  refine (Answer_c HIP.out HLM.out HLS.out HF.out HM.out).mono ?_
  rintro e w1 ⟨us, rfl, Hs, g1⟩
  rw [HA.out] at Hs
  rw [HK.out]
  have Es := Hs.shape
  obtain ⟨sp1, sk1, sp2, sk2, rfl, _, _⟩ := Es
  replace HF := Lib.hid (HF.out.grew g1)
  replace HM := Lib.hid (HM.out.grew g1)
  replace hB := hB.grew g1
  replace Hs := Lib.hid Hs
  have G1 := g0.trans g1
  clear g1
  go_upto_region 2 with fail
  have g2 : Grew w1 (w1.alloc (.cells #[.int .i64 zA.op, .slice sp1 zA.sm.length sk1, .int .u32 zA.si, .slice sp2 zA.tm.length sk2, .int .u32 zA.ti] 34)) := (Grew.refl _).alloc _
  have hX7 : Blk (w1.alloc (.cells #[.int .i64 zA.op, .slice sp1 zA.sm.length sk1, .int .u32 zA.si, .slice sp2 zA.tm.length sk2, .int .u32 zA.ti] 34)) w1.heap.size #[.int .i64 zA.op, .slice sp1 zA.sm.length sk1, .int .u32 zA.si, .slice sp2 zA.tm.length sk2, .int .u32 zA.ti] 34 := Blk.new _ _ _ _ rfl
  replace HF := Lib.hid (HF.out.grew g2)
  replace HM := Lib.hid (HM.out.grew g2)
  replace Hs := Lib.hid (Hs.out.grew g2)
  replace hB := hB.grew g2
  have G2 := G1.trans g2
  clear g2
  generalize (w1.alloc (.cells #[.int .i64 zA.op, .slice sp1 zA.sm.length sk1, .int .u32 zA.si, .slice sp2 zA.tm.length sk2, .int .u32 zA.ti] 34)) = w2 at *
  generalize w1.heap.size = X7 at *
  clear y0 y1 y2 y3 y4
  have y0 := hB.cell 0
  have y1 := hB.cell 1
  have y2 := hB.cell 2
  have y3 := hB.cell 3
  have y4 := hB.cell 4
  have HZ := Lib.hid (arps16_c Hs.out (Ar.zero w2))
  have z0 := hX7.cell 0
  have z1 := hX7.cell 1
  have z2 := hX7.cell 2
  have z3 := hX7.cell 3
  have z4 := hX7.cell 4
  go_wp2_with fail
  refine HZ.out.mono ?_
  rintro e wi ⟨rfl, gi⟩
  go_wp2_with fail
  refine (heads_c (G2.trans gi) (sn.grew (G2.trans gi))).mono ?_
  rintro e wh ⟨rfl, gh⟩
  go_wp2_with fail
  go_ret
  exact ⟨rfl, gh⟩
set_option maxHeartbeats 4000000 in
theorem walk_2 {f : AR} {p1 : Option Addr} {k1 : Nat} {p2 : Option Addr} {k2 : Nat} (pm : Option Addr) (m km : Nat) (ms : List Int) (ip : Int) (hip : u32I ip) (hlm : ms.length ≤ 140737488355328) (hls : f.sm.length ≤ 140737488355328) (q1 : (f.op == 1) = true) (q2 : (f.ti == ip) = true) (q3 : ((m : Int) == 6) = false) {W : World} {a0 a1 a2 : Addr} (sn : Sen W a0 a1 a2) (hF : Ar W (.agg #[.int .i64 f.op, .slice p1 f.sm.length k1, .int .u32 f.si, .slice p2 f.tm.length k2, .int .u32 f.ti]) f) (hm : Buf W (.slice pm m km) ms) :
    Calls Tryd.prog 7 #[.agg #[.int .i64 f.op, .slice p1 f.sm.length k1, .int .u32 f.si, .slice p2 f.tm.length k2, .int .u32 f.ti], .slice pm m km, .int .u32 ip] W fun e w' => e = .returned (.bool true) ∧ Below W.heap.size W w' := by
  have HLM := Lib.hid hlm
  have HLS := Lib.hid hls
  have HF0 := Lib.hid hF
  have HM0 := Lib.hid hm
  have HIP := Lib.hid hip
  have hn := hm.lenEq.1
  have hk : asks f ms ip = false := by unfold asks; simp at q1 q2 q3; exact decide_eq_false (by omega)
  have ha : ansA f ms ip = zA := by unfold ansA; rw [hk]; rfl
  have HK := Lib.hid hk
  have HA := Lib.hid ha
  have HN := Lib.hid hn
  clear hF hm hlm hls hip hk ha hn
  go_enter Tryd.func7, Tryd.ntmps7
  go_upto_region 1 with fail
  have hB : Blk (W.alloc (.cells #[.int .i64 f.op, .slice p1 f.sm.length k1, .int .u32 f.si, .slice p2 f.tm.length k2, .int .u32 f.ti] 34)) W.heap.size #[.int .i64 f.op, .slice p1 f.sm.length k1, .int .u32 f.si, .slice p2 f.tm.length k2, .int .u32 f.ti] 34 := Blk.new _ _ _ _ rfl
  have g0 : Grew W (W.alloc (.cells #[.int .i64 f.op, .slice p1 f.sm.length k1, .int .u32 f.si, .slice p2 f.tm.length k2, .int .u32 f.ti] 34)) := (Grew.refl _).alloc _
  generalize (W.alloc (.cells #[.int .i64 f.op, .slice p1 f.sm.length k1, .int .u32 f.si, .slice p2 f.tm.length k2, .int .u32 f.ti] 34)) = w0 at *
  generalize hlB : W.heap.size = B at *
  have HF := Lib.hid (HF0.out.grew g0)
  have HM := Lib.hid (HM0.out.grew g0)
  have y0 := hB.cell 0
  have y1 := hB.cell 1
  have y2 := hB.cell 2
  have y3 := hB.cell 3
  have y4 := hB.cell 4
  go_wp2_with fail
  refine (Answer_c HIP.out HLM.out HLS.out HF.out HM.out).mono ?_
  rintro e w1 ⟨us, rfl, Hs, g1⟩
  rw [HA.out] at Hs
  rw [HK.out]
  have Es := Hs.shape
  obtain ⟨sp1, sk1, sp2, sk2, rfl, _, _⟩ := Es
  replace HF := Lib.hid (HF.out.grew g1)
  replace HM := Lib.hid (HM.out.grew g1)
  replace hB := hB.grew g1
  replace Hs := Lib.hid Hs
  have G1 := g0.trans g1
  clear g1
  go_upto_region 2 with fail
  have g2 : Grew w1 (w1.alloc (.cells #[.int .i64 zA.op, .slice sp1 zA.sm.length sk1, .int .u32 zA.si, .slice sp2 zA.tm.length sk2, .int .u32 zA.ti] 34)) := (Grew.refl _).alloc _
  have hX7 : Blk (w1.alloc (.cells #[.int .i64 zA.op, .slice sp1 zA.sm.length sk1, .int .u32 zA.si, .slice sp2 zA.tm.length sk2, .int .u32 zA.ti] 34)) w1.heap.size #[.int .i64 zA.op, .slice sp1 zA.sm.length sk1, .int .u32 zA.si, .slice sp2 zA.tm.length sk2, .int .u32 zA.ti] 34 := Blk.new _ _ _ _ rfl
  replace HF := Lib.hid (HF.out.grew g2)
  replace HM := Lib.hid (HM.out.grew g2)
  replace Hs := Lib.hid (Hs.out.grew g2)
  replace hB := hB.grew g2
  have G2 := G1.trans g2
  clear g2
  generalize (w1.alloc (.cells #[.int .i64 zA.op, .slice sp1 zA.sm.length sk1, .int .u32 zA.si, .slice sp2 zA.tm.length sk2, .int .u32 zA.ti] 34)) = w2 at *
  generalize w1.heap.size = X7 at *
  clear y0 y1 y2 y3 y4
  have y0 := hB.cell 0
  have y1 := hB.cell 1
  have y2 := hB.cell 2
  have y3 := hB.cell 3
  have y4 := hB.cell 4
  have HZ := Lib.hid (arps16_c Hs.out (Ar.zero w2))
  have z0 := hX7.cell 0
  have z1 := hX7.cell 1
  have z2 := hX7.cell 2
  have z3 := hX7.cell 3
  have z4 := hX7.cell 4
  go_wp2_with fail
  refine HZ.out.mono ?_
  rintro e wi ⟨rfl, gi⟩
  go_wp2_with fail
  refine (heads_c (G2.trans gi) (sn.grew (G2.trans gi))).mono ?_
  rintro e wh ⟨rfl, gh⟩
  go_wp2_with fail
  go_ret
  exact ⟨rfl, gh⟩
set_option maxHeartbeats 4000000 in
theorem walk_3 {f : AR} {p1 : Option Addr} {k1 : Nat} {p2 : Option Addr} {k2 : Nat} (pm : Option Addr) (m km : Nat) (ms : List Int) (ip : Int) (hip : u32I ip) (hlm : ms.length ≤ 140737488355328) (hls : f.sm.length ≤ 140737488355328) (q1 : (f.op == 1) = true) (q2 : (f.ti == ip) = true) (q3 : ((m : Int) == 6) = true) {W : World} {a0 a1 a2 : Addr} (sn : Sen W a0 a1 a2) (hF : Ar W (.agg #[.int .i64 f.op, .slice p1 f.sm.length k1, .int .u32 f.si, .slice p2 f.tm.length k2, .int .u32 f.ti]) f) (hm : Buf W (.slice pm m km) ms) :
    Calls Tryd.prog 7 #[.agg #[.int .i64 f.op, .slice p1 f.sm.length k1, .int .u32 f.si, .slice p2 f.tm.length k2, .int .u32 f.ti], .slice pm m km, .int .u32 ip] W fun e w' => e = .returned (.bool true) ∧ Below W.heap.size W w' := by
  have HLM := Lib.hid hlm
  have HLS := Lib.hid hls
  have HF0 := Lib.hid hF
  have HM0 := Lib.hid hm
  have HIP := Lib.hid hip
  have hn := hm.lenEq.1
  have hk : asks f ms ip = true := by unfold asks; simp at q1 q2 q3; exact decide_eq_true (by omega)
  have ha : ansA f ms ip = ⟨2, ms, ip, f.sm, f.si⟩ := by unfold ansA; rw [hk]; rfl
  have HK := Lib.hid hk
  have HA := Lib.hid ha
  have HN := Lib.hid hn
  clear hF hm hlm hls hip hk ha hn
  go_enter Tryd.func7, Tryd.ntmps7
  go_upto_region 1 with fail
  have hB : Blk (W.alloc (.cells #[.int .i64 f.op, .slice p1 f.sm.length k1, .int .u32 f.si, .slice p2 f.tm.length k2, .int .u32 f.ti] 34)) W.heap.size #[.int .i64 f.op, .slice p1 f.sm.length k1, .int .u32 f.si, .slice p2 f.tm.length k2, .int .u32 f.ti] 34 := Blk.new _ _ _ _ rfl
  have g0 : Grew W (W.alloc (.cells #[.int .i64 f.op, .slice p1 f.sm.length k1, .int .u32 f.si, .slice p2 f.tm.length k2, .int .u32 f.ti] 34)) := (Grew.refl _).alloc _
  generalize (W.alloc (.cells #[.int .i64 f.op, .slice p1 f.sm.length k1, .int .u32 f.si, .slice p2 f.tm.length k2, .int .u32 f.ti] 34)) = w0 at *
  generalize hlB : W.heap.size = B at *
  have HF := Lib.hid (HF0.out.grew g0)
  have HM := Lib.hid (HM0.out.grew g0)
  have y0 := hB.cell 0
  have y1 := hB.cell 1
  have y2 := hB.cell 2
  have y3 := hB.cell 3
  have y4 := hB.cell 4
  go_wp2_with fail
  refine (Answer_c HIP.out HLM.out HLS.out HF.out HM.out).mono ?_
  rintro e w1 ⟨us, rfl, Hs, g1⟩
  rw [HA.out] at Hs
  rw [HK.out]
  have Es := Hs.shape
  obtain ⟨sp1, sk1, sp2, sk2, rfl, _, _⟩ := Es
  replace HF := Lib.hid (HF.out.grew g1)
  replace HM := Lib.hid (HM.out.grew g1)
  replace hB := hB.grew g1
  replace Hs := Lib.hid Hs
  have G1 := g0.trans g1
  clear g1
  go_upto_region 2 with fail
  have g2 : Grew w1 (w1.alloc (.cells #[.int .i64 (⟨2, ms, ip, f.sm, f.si⟩ : AR).op, .slice sp1 (⟨2, ms, ip, f.sm, f.si⟩ : AR).sm.length sk1, .int .u32 (⟨2, ms, ip, f.sm, f.si⟩ : AR).si, .slice sp2 (⟨2, ms, ip, f.sm, f.si⟩ : AR).tm.length sk2, .int .u32 (⟨2, ms, ip, f.sm, f.si⟩ : AR).ti] 34)) := (Grew.refl _).alloc _
  have hX7 : Blk (w1.alloc (.cells #[.int .i64 (⟨2, ms, ip, f.sm, f.si⟩ : AR).op, .slice sp1 (⟨2, ms, ip, f.sm, f.si⟩ : AR).sm.length sk1, .int .u32 (⟨2, ms, ip, f.sm, f.si⟩ : AR).si, .slice sp2 (⟨2, ms, ip, f.sm, f.si⟩ : AR).tm.length sk2, .int .u32 (⟨2, ms, ip, f.sm, f.si⟩ : AR).ti] 34)) w1.heap.size #[.int .i64 (⟨2, ms, ip, f.sm, f.si⟩ : AR).op, .slice sp1 (⟨2, ms, ip, f.sm, f.si⟩ : AR).sm.length sk1, .int .u32 (⟨2, ms, ip, f.sm, f.si⟩ : AR).si, .slice sp2 (⟨2, ms, ip, f.sm, f.si⟩ : AR).tm.length sk2, .int .u32 (⟨2, ms, ip, f.sm, f.si⟩ : AR).ti] 34 := Blk.new _ _ _ _ rfl
  replace HF := Lib.hid (HF.out.grew g2)
  replace HM := Lib.hid (HM.out.grew g2)
  replace Hs := Lib.hid (Hs.out.grew g2)
  replace hB := hB.grew g2
  have G2 := G1.trans g2
  clear g2
  generalize (w1.alloc (.cells #[.int .i64 (⟨2, ms, ip, f.sm, f.si⟩ : AR).op, .slice sp1 (⟨2, ms, ip, f.sm, f.si⟩ : AR).sm.length sk1, .int .u32 (⟨2, ms, ip, f.sm, f.si⟩ : AR).si, .slice sp2 (⟨2, ms, ip, f.sm, f.si⟩ : AR).tm.length sk2, .int .u32 (⟨2, ms, ip, f.sm, f.si⟩ : AR).ti] 34)) = w2 at *
  generalize w1.heap.size = X7 at *
  clear y0 y1 y2 y3 y4
  have y0 := hB.cell 0
  have y1 := hB.cell 1
  have y2 := hB.cell 2
  have y3 := hB.cell 3
  have y4 := hB.cell 4
  have z0 := hX7.cell 0
  have z1 := hX7.cell 1
  have z2 := hX7.cell 2
  have z3 := hX7.cell 3
  have z4 := hX7.cell 4
  go_wp2_with fail
  refine (Answer_c HIP.out HLM.out (f := ⟨2, ms, ip, f.sm, f.si⟩) HLM.out Hs.out HM.out).mono ?_
  rintro e w3 ⟨ut, rfl, Ht, g3⟩
  rw [show ansA ⟨2, ms, ip, f.sm, f.si⟩ ms ip = zA from rfl] at Ht
  rw [show asks ⟨2, ms, ip, f.sm, f.si⟩ ms ip = false from rfl]
  have Et := Ht.shape
  obtain ⟨tp1, tk1, tp2, tk2, rfl, _, _⟩ := Et
  replace HF := Lib.hid (HF.out.grew g3)
  replace HM := Lib.hid (HM.out.grew g3)
  replace Hs := Lib.hid (Hs.out.grew g3)
  replace hB := hB.grew g3
  replace hX7 := hX7.grew g3
  replace Ht := Lib.hid Ht
  have G3 := G2.trans g3
  clear g3
  go_upto_region 7 with fail
  have g4 : Grew w3 (w3.alloc (.cells #[.int .i64 zA.op, .slice tp1 zA.sm.length tk1, .int .u32 zA.si, .slice tp2 zA.tm.length tk2, .int .u32 zA.ti] 34)) := (Grew.refl _).alloc _
  have hX9 : Blk (w3.alloc (.cells #[.int .i64 zA.op, .slice tp1 zA.sm.length tk1, .int .u32 zA.si, .slice tp2 zA.tm.length tk2, .int .u32 zA.ti] 34)) w3.heap.size #[.int .i64 zA.op, .slice tp1 zA.sm.length tk1, .int .u32 zA.si, .slice tp2 zA.tm.length tk2, .int .u32 zA.ti] 34 := Blk.new _ _ _ _ rfl
  replace HF := Lib.hid (HF.out.grew g4)
  replace HM := Lib.hid (HM.out.grew g4)
  replace Hs := Lib.hid (Hs.out.grew g4)
  replace Ht := Lib.hid (Ht.out.grew g4)
  replace hB := hB.grew g4
  replace hX7 := hX7.grew g4
  have G4 := G3.trans g4
  clear g4
  generalize (w3.alloc (.cells #[.int .i64 zA.op, .slice tp1 zA.sm.length tk1, .int .u32 zA.si, .slice tp2 zA.tm.length tk2, .int .u32 zA.ti] 34)) = w4 at *
  generalize w3.heap.size = X9 at *
  clear z0 z1 z2 z3 z4
  clear y0 y1 y2 y3 y4
  have HQ := Hs.out.shape
  obtain ⟨v1, v2, v3, v4, ev, hv1, hv2⟩ := HQ
  obtain ⟨x1, x2, x3, x4, ex', hx1, hx2⟩ := HF.out.shape
  simp only [arV, Value.agg.injEq, Array.mk.injEq, List.cons.injEq, Value.slice.injEq, and_true, true_and] at ev ex'
  obtain ⟨⟨rfl, rfl⟩, rfl, rfl⟩ := ev
  obtain ⟨⟨rfl, rfl⟩, rfl, rfl⟩ := ex'
  have c1 := sameB_c w4 hv1 HM.out
  have c2 := sameB_c w4 hv2 hx1
  rw [decide_eq_true rfl] at c1 c2
  have C1 := Lib.hid c1
  have C2 := Lib.hid c2
  clear c1 c2 hv1 hv2 hx1 hx2
  have e1 : (ip == ip) = true := by simp
  have e2 : (f.si == f.si) = true := by simp
  have z0 := hX7.cell 0
  have z1 := hX7.cell 1
  have z2 := hX7.cell 2
  have z3 := hX7.cell 3
  have z4 := hX7.cell 4
  have y0 := hB.cell 0
  have y1 := hB.cell 1
  have y2 := hB.cell 2
  have y3 := hB.cell 3
  have y4 := hB.cell 4
  go_wp2_with fail
  refine (C1.out.mono ?_)
  rintro e wi ⟨rfl, hi⟩
  obtain rfl := hi.symm
  go_wp2_with fail
  refine (C2.out.mono ?_)
  rintro e wj ⟨rfl, hj⟩
  obtain rfl := hj.symm
  go_wp2_with fail
  refine (heads_c (G4) (sn.grew (G4))).mono ?_
  rintro e wh ⟨rfl, gh⟩
  go_wp2_with fail
  go_ret
  exact ⟨rfl, gh⟩
theorem walk (v : Value) (f : AR) (z : Value) (ms : List Int) (ip : Int) (hip : 0 ≤ ip ∧ ip < 4294967296) {W : World} (sw : SenW W) (hF : Ar W v f) (hft : f.sm.length ≤ 140737488355328 ∧ f.tm.length ≤ 140737488355328) (hm : Buf W z ms) (hlm : ms.length ≤ 140737488355328) :
    Calls Tryd.prog 7 #[v, z, .int .u32 ip] W fun e w' => e = .returned (.bool true) ∧ Below W.heap.size W w' := by
  obtain ⟨a0, a1, a2, sn⟩ := sw
  have hF' := hF
  obtain ⟨p1, k1, p2, k2, rfl, _, _⟩ := hF'.shape
  obtain ⟨pm, km, rfl, _, _⟩ := hm.shape
  cases q1 : (f.op == 1)
  · exact walk_0 pm _ km ms ip hip hlm hft.1 q1 sn hF hm
  · cases q2 : (f.ti == ip)
    · exact walk_1 pm _ km ms ip hip hlm hft.1 q1 q2 sn hF hm
    · cases q3 : ((ms.length : Int) == 6)
      · exact walk_2 pm _ km ms ip hip hlm hft.1 q1 q2 q3 sn hF hm
      · exact walk_3 pm _ km ms ip hip hlm hft.1 q1 q2 q3 sn hF hm
set_option maxRecDepth 100000 in
theorem lifted (os : Os) (started : os.Started) (H : Type) (enc : TypeId × Value → H) :
    ReturnsInHanded {} Tryd.checked os 7 .any (fun w args => (Rows.etherAnswersSpec.pre enc Tryd.prog Tryd.f7 [] false w args ∧ laidMetH Tryd.prog laid2 w) ∧ sizedMet enc Tryd.prog Tryd.f7 (OpenSpec.ofChange Rows.etherAnswersSpec) false w args) (Rows.etherAnswersSpec.post enc Tryd.prog Tryd.f7 false true false false) := by
  refine returnsInHanded_of_change_and (C := Tryd.checked) (X := fun w _ => laidMetH Tryd.prog laid2 w) (fun _ _ _ hh h => h.of_heap hh) own started (by kernel_rfl) Tryd.func7
    (ChangeSpec.witness_shaped (enc := enc) (C := Tryd.checked) (os := os) (X := fun w _ => laidMetH Tryd.prog laid2 w) false (World.doorLaid Tryd.prog 400 os) #[.agg #[.int .i64 0, .slice none 0 0, .int .u32 0, .slice none 0 0, .int .u32 0], .slice none 0 0, .int .u32 0] 8 rfl (World.shaped_of_RefB (by kernel_rfl) (by kernel_rfl)) (by kernel_rfl) (by kernel_rfl) (by kernel_rfl) (door_met os _)) ?_
  intro W base args ds gs before hval0 hW _ hz0 hL _
  obtain ⟨a0, a1, sn⟩ := sen_of_laid hL
  have hval : ∀ (j : Nat) t v, Tryd.f7.params[j]? = some t → args[j]? = some v → Value.okWide Tryd.prog W .any base t v := hval0
  have hW' := hW
  obtain ⟨p, q, hA0, hV, rfl, hfz, hnd⟩ := hW
  have hA : DataW.TrodAll enc Tryd.prog W 0 (fun _ => true) true Tryd.f7.params.toList args.toList ds p := hA0
  rw [Tryd.params7] at hA hval
  obtain ⟨v0, vs0, d0, ds0, p0, q0, hargs, rfl, rfl, h0, r'0⟩ := trodAll_cons hA
  obtain ⟨v1, vs1, d1, ds1, p1, q1, rfl, rfl, rfl, h1, r'1⟩ := trodAll_cons r'0
  obtain ⟨v2, vs2, d2, ds2, p2, q2, rfl, rfl, rfl, h2, r'2⟩ := trodAll_cons r'1
  obtain ⟨rfl, rfl, rfl⟩ := trodAll_nil r'2
  obtain rfl : args = #[v0, v1, v2] := by cases args; simp_all
  obtain ⟨f0, k0, z0⟩ := open_arp (hval 0 34 v0 rfl rfl) h0
  have fits0 := z0 (fun m hm => by simpa using List.all_eq_true.1 hz0 _ (DataW.weights_mem_each (j := 0) (t := 34) rfl rfl m hm))
  obtain ⟨x1, k1, z1⟩ := open_buf_w (hval 1 22 v1 rfl rfl) h1
  have fits1 := z1 (fun m hm => by simpa using List.all_eq_true.1 hz0 _ (DataW.weights_mem_each (j := 1) (t := 22) rfl rfl m hm))
  obtain ⟨a2, rfl, rfl, rfl, w2⟩ := open_int Tryd.underlying32 (hval 2 32 v2 rfl rfl) h2
  refine (walk v0 f0 v1 x1 a2 (wf_u32 w2) sn k0 fits0 k1 fits1).mono fun e W' ⟨he, hb⟩ => ?_
  subst he
  exact ⟨_, rfl, law_post hW' rfl rfl laid (by kernel_rfl) rfl Tryd.underlying4 hb⟩

theorem over : Rows.etherAnswersRow.holds Tryd.pinned (OpenSpec.ofChange Rows.etherAnswersSpec) :=
  OpenClaim.holds_of_wide 7 Tryd.f7 rfl rfl rfl rfl rfl rfl rfl ⟨rfl, rfl, rfl, rfl, rfl⟩ rfl rfl rfl rfl rfl (by kernel_rfl) Tryd.func7 (by kernel_rfl)
    (of_decide_eq_true (by kernel_rfl)) (by unfold Func.isWrapper; first | (rw [if_pos (by decide +kernel)]; kernel_rfl) | (rw [if_neg (by decide +kernel)]; exact ⟨rfl, rfl⟩))
    (fun os started H enc _ => lifted os started H enc)

theorem proved : Rows.EtherAnswersCardSaid :=
  Claim7.holds_tied_plain_at .later [] Rows.etherAnswersCard.laidKinds true Rows.etherAnswersCard.stood.harness Rows.etherAnswersCard.stood.looks
    over (fun _ h => by cases h) (by kernel_rfl) (fun _ h => by cases h) etherAnswers_row_tie rfl ⟨rfl, rfl⟩ (by kernel_rfl) rfl
    (fun f fn hf hfn => by
      obtain rfl : f = 7 := Option.some.inj ((show Tryd.prog.funcNamed "drawbridge/drawbridgelaw16.EtherAnswers" = some 7 by kernel_rfl).symm.trans hf) |>.symm
      obtain rfl : fn = Tryd.f7 := (Option.some.inj (Tryd.func7.symm.trans hfn)).symm
      exact ⟨by kernel_rfl, fun j t ht => by
        have hall : (Tryd.f7.params.toList.all fun u => !Tryd.prog.wantsStandIn u) = true := by kernel_rfl
        have hm : t ∈ Tryd.f7.params.toList := by simpa using Array.mem_of_getElem? ht
        exact (show Tryd.prog.wantsStandIn t = false by simpa using List.all_eq_true.1 hall t hm)⟩)
    (by kernel_rfl)
#print axioms proved
end Go.Proofs.YtolfaelalmmefaaDoor.etherAnswers
