/-
  Answer of every message; the document's own frames and messages.
-/
import Derived.Test.YtolfaelalmmefaaDoorEtE
import Derived.Test.YtolfaelalmmefaaDoorEtF
set_option maxRecDepth 4000
set_option linter.unusedVariables false
set_option linter.unusedSimpArgs false
namespace Go.Proofs.YtolfaelalmmefaaDoor
open Go.RowKit

theorem Answer_c {v u : Value} {f : AR} {ms : List Int} {ip : Int} (hip : u32I ip) (hlm : ms.length ≤ 140737488355328) (hls : f.sm.length ≤ 140737488355328) {w : World} (hv : Ar w v f) (hbm : Buf w u ms) :
    Calls Tryd.prog 19 #[v, u, .int .u32 ip] w fun e w' => ∃ x, e = .returned (.tuple #[x, .bool (asks f ms ip)]) ∧ Ar w' x (ansA f ms ip) ∧ Grew w w' := by
  have hs := hv.si
  obtain ⟨p1, k1, p2, k2, rfl, b1, b2⟩ := hv.shape
  obtain ⟨pm, km, rfl, _, _⟩ := hbm.shape
  unfold ansA
  cases h1 : (f.op != 1)
  · cases h2 : (f.ti != ip)
    · cases h3 : ((ms.length : Int) == 6)
      · rw [show asks f ms ip = false by unfold asks; simp at h1 h2 h3; first | exact decide_eq_true ⟨h1, h2, by omega⟩ | exact decide_eq_false (by omega)]
        exact ansp_2 h1 h2 h3 b1 b2 hbm
      · rw [show asks f ms ip = true by unfold asks; simp at h1 h2 h3; first | exact decide_eq_true ⟨h1, h2, by omega⟩ | exact decide_eq_false (by omega)]
        exact ansp_3 h1 h2 h3 rfl hlm hls hip hs b1 b2 hbm
    · rw [show asks f ms ip = false by unfold asks; simp at h2; exact decide_eq_false (by omega)]
      exact ansp_1 h1 h2 b1 b2 hbm
  · rw [show asks f ms ip = false by unfold asks; simp at h1; exact decide_eq_false (by omega)]
    exact ansp_0 h1 b1 b2 hbm
theorem refAnswer_c {v u : Value} {f : AR} {ms : List Int} {ip : Int} (hip : u32I ip) (hlm : ms.length ≤ 140737488355328) (hls : f.sm.length ≤ 140737488355328) {w : World} (hv : Ar w v f) (hbm : Buf w u ms) :
    Calls Tryd.prog 20 #[v, u, .int .u32 ip] w fun e w' => ∃ x, e = .returned (.tuple #[x, .bool (asks f ms ip)]) ∧ Ar w' x (ansA f ms ip) ∧ Grew w w' := by
  have hs := hv.si
  obtain ⟨p1, k1, p2, k2, rfl, b1, b2⟩ := hv.shape
  obtain ⟨pm, km, rfl, _, _⟩ := hbm.shape
  unfold ansA
  cases h1 : (f.op != 1)
  · cases h2 : (f.ti != ip)
    · cases h3 : ((ms.length : Int) != 6)
      · rw [show asks f ms ip = true by unfold asks; simp at h1 h2 h3; first | exact decide_eq_true ⟨h1, h2, by omega⟩ | exact decide_eq_false (by omega)]
        exact ansr_3 h1 h2 h3 rfl hlm hls hip hs b1 b2 hbm
      · rw [show asks f ms ip = false by unfold asks; simp at h1 h2 h3; first | exact decide_eq_true ⟨h1, h2, by omega⟩ | exact decide_eq_false (by omega)]
        exact ansr_2 h1 h2 h3 b1 b2 hbm
    · rw [show asks f ms ip = false by unfold asks; simp at h2; exact decide_eq_false (by omega)]
      exact ansr_1 h1 h2 b1 b2 hbm
  · rw [show asks f ms ip = false by unfold asks; simp at h1; exact decide_eq_false (by omega)]
    exact ansr_0 h1 b1 b2 hbm
theorem same16_0 {f g : FR} {sp1 : Option Addr} {sk1 : Nat} {sp2 : Option Addr} {sk2 : Nat} {sp3 : Option Addr} {sk3 : Nat} {tp1 : Option Addr} {tk1 : Nat} {tp2 : Option Addr} {tk2 : Nat} {tp3 : Option Addr} {tk3 : Nat} (h0 : decide (f.d = g.d) = false) {w : World} (hs1 : Buf w (.slice sp1 f.d.length sk1) f.d) (hs2 : Buf w (.slice sp2 f.s.length sk2) f.s) (hs3 : Buf w (.slice sp3 f.x.length sk3) f.x) (ht1 : Buf w (.slice tp1 g.d.length tk1) g.d) (ht2 : Buf w (.slice tp2 g.s.length tk2) g.s) (ht3 : Buf w (.slice tp3 g.x.length tk3) g.x) :
    Calls Tryd.prog 16 #[.agg #[.slice sp1 f.d.length sk1, .slice sp2 f.s.length sk2, .int .i64 f.t, .slice sp3 f.x.length sk3], .agg #[.slice tp1 g.d.length tk1, .slice tp2 g.s.length tk2, .int .i64 g.t, .slice tp3 g.x.length tk3]] w fun e w' => e = .returned (.bool false) ∧ Grew w w' := by
  have hd0 := strOf_eq hs1.ok ht1.ok
  rw [h0] at hd0
  have g0 : Grew w ((w.alloc (.cells #[.slice sp1 f.d.length sk1, .slice sp2 f.s.length sk2, .int .i64 f.t, .slice sp3 f.x.length sk3] 25)).alloc (.cells #[.slice tp1 g.d.length tk1, .slice tp2 g.s.length tk2, .int .i64 g.t, .slice tp3 g.x.length tk3] 25)) := ((Grew.refl _).alloc _).alloc _
  have hA0 : Blk ((w.alloc (.cells #[.slice sp1 f.d.length sk1, .slice sp2 f.s.length sk2, .int .i64 f.t, .slice sp3 f.x.length sk3] 25)).alloc (.cells #[.slice tp1 g.d.length tk1, .slice tp2 g.s.length tk2, .int .i64 g.t, .slice tp3 g.x.length tk3] 25)) w.heap.size #[.slice sp1 f.d.length sk1, .slice sp2 f.s.length sk2, .int .i64 f.t, .slice sp3 f.x.length sk3] 25 := (Blk.new _ _ _ _ rfl).alloc _
  have hB0 : Blk ((w.alloc (.cells #[.slice sp1 f.d.length sk1, .slice sp2 f.s.length sk2, .int .i64 f.t, .slice sp3 f.x.length sk3] 25)).alloc (.cells #[.slice tp1 g.d.length tk1, .slice tp2 g.s.length tk2, .int .i64 g.t, .slice tp3 g.x.length tk3] 25)) (w.heap.size + 1) #[.slice tp1 g.d.length tk1, .slice tp2 g.s.length tk2, .int .i64 g.t, .slice tp3 g.x.length tk3] 25 := Blk.new _ _ _ _ (by simp)
  have cs1 := convert_bytes (hs1.grew g0).bytes
  have ct1 := convert_bytes (ht1.grew g0).bytes
  have cs2 := convert_bytes (hs2.grew g0).bytes
  have ct2 := convert_bytes (ht2.grew g0).bytes
  have cs3 := convert_bytes (hs3.grew g0).bytes
  have ct3 := convert_bytes (ht3.grew g0).bytes
  clear hs1 ht1 hs2 ht2 hs3 ht3
  go_enter Tryd.func16, Tryd.ntmps16
  go_upto_region 1 with fail
  generalize ((w.alloc (.cells #[.slice sp1 f.d.length sk1, .slice sp2 f.s.length sk2, .int .i64 f.t, .slice sp3 f.x.length sk3] 25)).alloc (.cells #[.slice tp1 g.d.length tk1, .slice tp2 g.s.length tk2, .int .i64 g.t, .slice tp3 g.x.length tk3] 25)) = w0 at *
  generalize w.heap.size + 1 = B at *
  generalize w.heap.size = A at *
  have y0 := hA0.cell 0
  have y1 := hA0.cell 1
  have y2 := hA0.cell 2
  have y3 := hA0.cell 3
  have z0 := hB0.cell 0
  have z1 := hB0.cell 1
  have z2 := hB0.cell 2
  have z3 := hB0.cell 3
  go_wp2_with fail
  go_ret
  exact ⟨rfl, g0⟩
theorem same16_1 {f g : FR} {sp1 : Option Addr} {sk1 : Nat} {sp2 : Option Addr} {sk2 : Nat} {sp3 : Option Addr} {sk3 : Nat} {tp1 : Option Addr} {tk1 : Nat} {tp2 : Option Addr} {tk2 : Nat} {tp3 : Option Addr} {tk3 : Nat} (h0 : decide (f.d = g.d) = true) (h1 : decide (f.s = g.s) = false) {w : World} (hs1 : Buf w (.slice sp1 f.d.length sk1) f.d) (hs2 : Buf w (.slice sp2 f.s.length sk2) f.s) (hs3 : Buf w (.slice sp3 f.x.length sk3) f.x) (ht1 : Buf w (.slice tp1 g.d.length tk1) g.d) (ht2 : Buf w (.slice tp2 g.s.length tk2) g.s) (ht3 : Buf w (.slice tp3 g.x.length tk3) g.x) :
    Calls Tryd.prog 16 #[.agg #[.slice sp1 f.d.length sk1, .slice sp2 f.s.length sk2, .int .i64 f.t, .slice sp3 f.x.length sk3], .agg #[.slice tp1 g.d.length tk1, .slice tp2 g.s.length tk2, .int .i64 g.t, .slice tp3 g.x.length tk3]] w fun e w' => e = .returned (.bool false) ∧ Grew w w' := by
  have hd0 := strOf_eq hs1.ok ht1.ok
  rw [h0] at hd0
  have hd1 := strOf_eq hs2.ok ht2.ok
  rw [h1] at hd1
  have g0 : Grew w ((w.alloc (.cells #[.slice sp1 f.d.length sk1, .slice sp2 f.s.length sk2, .int .i64 f.t, .slice sp3 f.x.length sk3] 25)).alloc (.cells #[.slice tp1 g.d.length tk1, .slice tp2 g.s.length tk2, .int .i64 g.t, .slice tp3 g.x.length tk3] 25)) := ((Grew.refl _).alloc _).alloc _
  have hA0 : Blk ((w.alloc (.cells #[.slice sp1 f.d.length sk1, .slice sp2 f.s.length sk2, .int .i64 f.t, .slice sp3 f.x.length sk3] 25)).alloc (.cells #[.slice tp1 g.d.length tk1, .slice tp2 g.s.length tk2, .int .i64 g.t, .slice tp3 g.x.length tk3] 25)) w.heap.size #[.slice sp1 f.d.length sk1, .slice sp2 f.s.length sk2, .int .i64 f.t, .slice sp3 f.x.length sk3] 25 := (Blk.new _ _ _ _ rfl).alloc _
  have hB0 : Blk ((w.alloc (.cells #[.slice sp1 f.d.length sk1, .slice sp2 f.s.length sk2, .int .i64 f.t, .slice sp3 f.x.length sk3] 25)).alloc (.cells #[.slice tp1 g.d.length tk1, .slice tp2 g.s.length tk2, .int .i64 g.t, .slice tp3 g.x.length tk3] 25)) (w.heap.size + 1) #[.slice tp1 g.d.length tk1, .slice tp2 g.s.length tk2, .int .i64 g.t, .slice tp3 g.x.length tk3] 25 := Blk.new _ _ _ _ (by simp)
  have cs1 := convert_bytes (hs1.grew g0).bytes
  have ct1 := convert_bytes (ht1.grew g0).bytes
  have cs2 := convert_bytes (hs2.grew g0).bytes
  have ct2 := convert_bytes (ht2.grew g0).bytes
  have cs3 := convert_bytes (hs3.grew g0).bytes
  have ct3 := convert_bytes (ht3.grew g0).bytes
  clear hs1 ht1 hs2 ht2 hs3 ht3
  go_enter Tryd.func16, Tryd.ntmps16
  go_upto_region 1 with fail
  generalize ((w.alloc (.cells #[.slice sp1 f.d.length sk1, .slice sp2 f.s.length sk2, .int .i64 f.t, .slice sp3 f.x.length sk3] 25)).alloc (.cells #[.slice tp1 g.d.length tk1, .slice tp2 g.s.length tk2, .int .i64 g.t, .slice tp3 g.x.length tk3] 25)) = w0 at *
  generalize w.heap.size + 1 = B at *
  generalize w.heap.size = A at *
  have y0 := hA0.cell 0
  have y1 := hA0.cell 1
  have y2 := hA0.cell 2
  have y3 := hA0.cell 3
  have z0 := hB0.cell 0
  have z1 := hB0.cell 1
  have z2 := hB0.cell 2
  have z3 := hB0.cell 3
  go_wp2_with fail
  go_ret
  exact ⟨rfl, g0⟩
theorem same16_2 {f g : FR} {sp1 : Option Addr} {sk1 : Nat} {sp2 : Option Addr} {sk2 : Nat} {sp3 : Option Addr} {sk3 : Nat} {tp1 : Option Addr} {tk1 : Nat} {tp2 : Option Addr} {tk2 : Nat} {tp3 : Option Addr} {tk3 : Nat} (h0 : decide (f.d = g.d) = true) (h1 : decide (f.s = g.s) = true) (h2 : (f.t == g.t) = false) {w : World} (hs1 : Buf w (.slice sp1 f.d.length sk1) f.d) (hs2 : Buf w (.slice sp2 f.s.length sk2) f.s) (hs3 : Buf w (.slice sp3 f.x.length sk3) f.x) (ht1 : Buf w (.slice tp1 g.d.length tk1) g.d) (ht2 : Buf w (.slice tp2 g.s.length tk2) g.s) (ht3 : Buf w (.slice tp3 g.x.length tk3) g.x) :
    Calls Tryd.prog 16 #[.agg #[.slice sp1 f.d.length sk1, .slice sp2 f.s.length sk2, .int .i64 f.t, .slice sp3 f.x.length sk3], .agg #[.slice tp1 g.d.length tk1, .slice tp2 g.s.length tk2, .int .i64 g.t, .slice tp3 g.x.length tk3]] w fun e w' => e = .returned (.bool false) ∧ Grew w w' := by
  have hd0 := strOf_eq hs1.ok ht1.ok
  rw [h0] at hd0
  have hd1 := strOf_eq hs2.ok ht2.ok
  rw [h1] at hd1
  have g0 : Grew w ((w.alloc (.cells #[.slice sp1 f.d.length sk1, .slice sp2 f.s.length sk2, .int .i64 f.t, .slice sp3 f.x.length sk3] 25)).alloc (.cells #[.slice tp1 g.d.length tk1, .slice tp2 g.s.length tk2, .int .i64 g.t, .slice tp3 g.x.length tk3] 25)) := ((Grew.refl _).alloc _).alloc _
  have hA0 : Blk ((w.alloc (.cells #[.slice sp1 f.d.length sk1, .slice sp2 f.s.length sk2, .int .i64 f.t, .slice sp3 f.x.length sk3] 25)).alloc (.cells #[.slice tp1 g.d.length tk1, .slice tp2 g.s.length tk2, .int .i64 g.t, .slice tp3 g.x.length tk3] 25)) w.heap.size #[.slice sp1 f.d.length sk1, .slice sp2 f.s.length sk2, .int .i64 f.t, .slice sp3 f.x.length sk3] 25 := (Blk.new _ _ _ _ rfl).alloc _
  have hB0 : Blk ((w.alloc (.cells #[.slice sp1 f.d.length sk1, .slice sp2 f.s.length sk2, .int .i64 f.t, .slice sp3 f.x.length sk3] 25)).alloc (.cells #[.slice tp1 g.d.length tk1, .slice tp2 g.s.length tk2, .int .i64 g.t, .slice tp3 g.x.length tk3] 25)) (w.heap.size + 1) #[.slice tp1 g.d.length tk1, .slice tp2 g.s.length tk2, .int .i64 g.t, .slice tp3 g.x.length tk3] 25 := Blk.new _ _ _ _ (by simp)
  have cs1 := convert_bytes (hs1.grew g0).bytes
  have ct1 := convert_bytes (ht1.grew g0).bytes
  have cs2 := convert_bytes (hs2.grew g0).bytes
  have ct2 := convert_bytes (ht2.grew g0).bytes
  have cs3 := convert_bytes (hs3.grew g0).bytes
  have ct3 := convert_bytes (ht3.grew g0).bytes
  clear hs1 ht1 hs2 ht2 hs3 ht3
  go_enter Tryd.func16, Tryd.ntmps16
  go_upto_region 1 with fail
  generalize ((w.alloc (.cells #[.slice sp1 f.d.length sk1, .slice sp2 f.s.length sk2, .int .i64 f.t, .slice sp3 f.x.length sk3] 25)).alloc (.cells #[.slice tp1 g.d.length tk1, .slice tp2 g.s.length tk2, .int .i64 g.t, .slice tp3 g.x.length tk3] 25)) = w0 at *
  generalize w.heap.size + 1 = B at *
  generalize w.heap.size = A at *
  have y0 := hA0.cell 0
  have y1 := hA0.cell 1
  have y2 := hA0.cell 2
  have y3 := hA0.cell 3
  have z0 := hB0.cell 0
  have z1 := hB0.cell 1
  have z2 := hB0.cell 2
  have z3 := hB0.cell 3
  go_wp2_with fail
  go_ret
  exact ⟨rfl, g0⟩
theorem same16_3 {f g : FR} {sp1 : Option Addr} {sk1 : Nat} {sp2 : Option Addr} {sk2 : Nat} {sp3 : Option Addr} {sk3 : Nat} {tp1 : Option Addr} {tk1 : Nat} {tp2 : Option Addr} {tk2 : Nat} {tp3 : Option Addr} {tk3 : Nat} (h0 : decide (f.d = g.d) = true) (h1 : decide (f.s = g.s) = true) (h2 : (f.t == g.t) = true) (h3 : decide (f.x = g.x) = false) {w : World} (hs1 : Buf w (.slice sp1 f.d.length sk1) f.d) (hs2 : Buf w (.slice sp2 f.s.length sk2) f.s) (hs3 : Buf w (.slice sp3 f.x.length sk3) f.x) (ht1 : Buf w (.slice tp1 g.d.length tk1) g.d) (ht2 : Buf w (.slice tp2 g.s.length tk2) g.s) (ht3 : Buf w (.slice tp3 g.x.length tk3) g.x) :
    Calls Tryd.prog 16 #[.agg #[.slice sp1 f.d.length sk1, .slice sp2 f.s.length sk2, .int .i64 f.t, .slice sp3 f.x.length sk3], .agg #[.slice tp1 g.d.length tk1, .slice tp2 g.s.length tk2, .int .i64 g.t, .slice tp3 g.x.length tk3]] w fun e w' => e = .returned (.bool false) ∧ Grew w w' := by
  have hd0 := strOf_eq hs1.ok ht1.ok
  rw [h0] at hd0
  have hd1 := strOf_eq hs2.ok ht2.ok
  rw [h1] at hd1
  have hd2 := strOf_eq hs3.ok ht3.ok
  rw [h3] at hd2
  have g0 : Grew w ((w.alloc (.cells #[.slice sp1 f.d.length sk1, .slice sp2 f.s.length sk2, .int .i64 f.t, .slice sp3 f.x.length sk3] 25)).alloc (.cells #[.slice tp1 g.d.length tk1, .slice tp2 g.s.length tk2, .int .i64 g.t, .slice tp3 g.x.length tk3] 25)) := ((Grew.refl _).alloc _).alloc _
  have hA0 : Blk ((w.alloc (.cells #[.slice sp1 f.d.length sk1, .slice sp2 f.s.length sk2, .int .i64 f.t, .slice sp3 f.x.length sk3] 25)).alloc (.cells #[.slice tp1 g.d.length tk1, .slice tp2 g.s.length tk2, .int .i64 g.t, .slice tp3 g.x.length tk3] 25)) w.heap.size #[.slice sp1 f.d.length sk1, .slice sp2 f.s.length sk2, .int .i64 f.t, .slice sp3 f.x.length sk3] 25 := (Blk.new _ _ _ _ rfl).alloc _
  have hB0 : Blk ((w.alloc (.cells #[.slice sp1 f.d.length sk1, .slice sp2 f.s.length sk2, .int .i64 f.t, .slice sp3 f.x.length sk3] 25)).alloc (.cells #[.slice tp1 g.d.length tk1, .slice tp2 g.s.length tk2, .int .i64 g.t, .slice tp3 g.x.length tk3] 25)) (w.heap.size + 1) #[.slice tp1 g.d.length tk1, .slice tp2 g.s.length tk2, .int .i64 g.t, .slice tp3 g.x.length tk3] 25 := Blk.new _ _ _ _ (by simp)
  have cs1 := convert_bytes (hs1.grew g0).bytes
  have ct1 := convert_bytes (ht1.grew g0).bytes
  have cs2 := convert_bytes (hs2.grew g0).bytes
  have ct2 := convert_bytes (ht2.grew g0).bytes
  have cs3 := convert_bytes (hs3.grew g0).bytes
  have ct3 := convert_bytes (ht3.grew g0).bytes
  clear hs1 ht1 hs2 ht2 hs3 ht3
  go_enter Tryd.func16, Tryd.ntmps16
  go_upto_region 1 with fail
  generalize ((w.alloc (.cells #[.slice sp1 f.d.length sk1, .slice sp2 f.s.length sk2, .int .i64 f.t, .slice sp3 f.x.length sk3] 25)).alloc (.cells #[.slice tp1 g.d.length tk1, .slice tp2 g.s.length tk2, .int .i64 g.t, .slice tp3 g.x.length tk3] 25)) = w0 at *
  generalize w.heap.size + 1 = B at *
  generalize w.heap.size = A at *
  have y0 := hA0.cell 0
  have y1 := hA0.cell 1
  have y2 := hA0.cell 2
  have y3 := hA0.cell 3
  have z0 := hB0.cell 0
  have z1 := hB0.cell 1
  have z2 := hB0.cell 2
  have z3 := hB0.cell 3
  go_wp2_with fail
  go_ret
  exact ⟨rfl, g0⟩
theorem same16_4 {f g : FR} {sp1 : Option Addr} {sk1 : Nat} {sp2 : Option Addr} {sk2 : Nat} {sp3 : Option Addr} {sk3 : Nat} {tp1 : Option Addr} {tk1 : Nat} {tp2 : Option Addr} {tk2 : Nat} {tp3 : Option Addr} {tk3 : Nat} (h0 : decide (f.d = g.d) = true) (h1 : decide (f.s = g.s) = true) (h2 : (f.t == g.t) = true) (h3 : decide (f.x = g.x) = true) {w : World} (hs1 : Buf w (.slice sp1 f.d.length sk1) f.d) (hs2 : Buf w (.slice sp2 f.s.length sk2) f.s) (hs3 : Buf w (.slice sp3 f.x.length sk3) f.x) (ht1 : Buf w (.slice tp1 g.d.length tk1) g.d) (ht2 : Buf w (.slice tp2 g.s.length tk2) g.s) (ht3 : Buf w (.slice tp3 g.x.length tk3) g.x) :
    Calls Tryd.prog 16 #[.agg #[.slice sp1 f.d.length sk1, .slice sp2 f.s.length sk2, .int .i64 f.t, .slice sp3 f.x.length sk3], .agg #[.slice tp1 g.d.length tk1, .slice tp2 g.s.length tk2, .int .i64 g.t, .slice tp3 g.x.length tk3]] w fun e w' => e = .returned (.bool true) ∧ Grew w w' := by
  have hd0 := strOf_eq hs1.ok ht1.ok
  rw [h0] at hd0
  have hd1 := strOf_eq hs2.ok ht2.ok
  rw [h1] at hd1
  have hd2 := strOf_eq hs3.ok ht3.ok
  rw [h3] at hd2
  have g0 : Grew w ((w.alloc (.cells #[.slice sp1 f.d.length sk1, .slice sp2 f.s.length sk2, .int .i64 f.t, .slice sp3 f.x.length sk3] 25)).alloc (.cells #[.slice tp1 g.d.length tk1, .slice tp2 g.s.length tk2, .int .i64 g.t, .slice tp3 g.x.length tk3] 25)) := ((Grew.refl _).alloc _).alloc _
  have hA0 : Blk ((w.alloc (.cells #[.slice sp1 f.d.length sk1, .slice sp2 f.s.length sk2, .int .i64 f.t, .slice sp3 f.x.length sk3] 25)).alloc (.cells #[.slice tp1 g.d.length tk1, .slice tp2 g.s.length tk2, .int .i64 g.t, .slice tp3 g.x.length tk3] 25)) w.heap.size #[.slice sp1 f.d.length sk1, .slice sp2 f.s.length sk2, .int .i64 f.t, .slice sp3 f.x.length sk3] 25 := (Blk.new _ _ _ _ rfl).alloc _
  have hB0 : Blk ((w.alloc (.cells #[.slice sp1 f.d.length sk1, .slice sp2 f.s.length sk2, .int .i64 f.t, .slice sp3 f.x.length sk3] 25)).alloc (.cells #[.slice tp1 g.d.length tk1, .slice tp2 g.s.length tk2, .int .i64 g.t, .slice tp3 g.x.length tk3] 25)) (w.heap.size + 1) #[.slice tp1 g.d.length tk1, .slice tp2 g.s.length tk2, .int .i64 g.t, .slice tp3 g.x.length tk3] 25 := Blk.new _ _ _ _ (by simp)
  have cs1 := convert_bytes (hs1.grew g0).bytes
  have ct1 := convert_bytes (ht1.grew g0).bytes
  have cs2 := convert_bytes (hs2.grew g0).bytes
  have ct2 := convert_bytes (ht2.grew g0).bytes
  have cs3 := convert_bytes (hs3.grew g0).bytes
  have ct3 := convert_bytes (ht3.grew g0).bytes
  clear hs1 ht1 hs2 ht2 hs3 ht3
  go_enter Tryd.func16, Tryd.ntmps16
  go_upto_region 1 with fail
  generalize ((w.alloc (.cells #[.slice sp1 f.d.length sk1, .slice sp2 f.s.length sk2, .int .i64 f.t, .slice sp3 f.x.length sk3] 25)).alloc (.cells #[.slice tp1 g.d.length tk1, .slice tp2 g.s.length tk2, .int .i64 g.t, .slice tp3 g.x.length tk3] 25)) = w0 at *
  generalize w.heap.size + 1 = B at *
  generalize w.heap.size = A at *
  have y0 := hA0.cell 0
  have y1 := hA0.cell 1
  have y2 := hA0.cell 2
  have y3 := hA0.cell 3
  have z0 := hB0.cell 0
  have z1 := hB0.cell 1
  have z2 := hB0.cell 2
  have z3 := hB0.cell 3
  go_wp2_with fail
  go_ret
  exact ⟨rfl, g0⟩
theorem same16_c {v u : Value} {f g : FR} {w : World} (hv : Fr w v f) (hu : Fr w u g) :
    Calls Tryd.prog 16 #[v, u] w fun e w' => e = .returned (.bool (decide (f.d = g.d) && decide (f.s = g.s) && (f.t == g.t) && decide (f.x = g.x))) ∧ Grew w w' := by
  obtain ⟨sp1, sk1, sp2, sk2, sp3, sk3, rfl, sb1, sb2, sb3⟩ := hv.shape
  obtain ⟨tp1, tk1, tp2, tk2, tp3, tk3, rfl, tb1, tb2, tb3⟩ := hu.shape
  cases h0 : decide (f.d = g.d)
  · simp only [Bool.and_false, Bool.false_and]; exact same16_0 h0 sb1 sb2 sb3 tb1 tb2 tb3
  · skip
    cases h1 : decide (f.s = g.s)
    · simp only [Bool.and_false, Bool.false_and]; exact same16_1 h0 h1 sb1 sb2 sb3 tb1 tb2 tb3
    · skip
      cases h2 : (f.t == g.t)
      · simp only [Bool.and_false, Bool.false_and]; exact same16_2 h0 h1 h2 sb1 sb2 sb3 tb1 tb2 tb3
      · skip
        cases h3 : decide (f.x = g.x)
        · simp only [Bool.and_false, Bool.false_and]; exact same16_3 h0 h1 h2 h3 sb1 sb2 sb3 tb1 tb2 tb3
        · exact same16_4 h0 h1 h2 h3 sb1 sb2 sb3 tb1 tb2 tb3
theorem arps16_0 {f g : AR} {sp1 : Option Addr} {sk1 : Nat} {sp2 : Option Addr} {sk2 : Nat} {tp1 : Option Addr} {tk1 : Nat} {tp2 : Option Addr} {tk2 : Nat} (h0 : (f.op == g.op) = false) {w : World} (hs1 : Buf w (.slice sp1 f.sm.length sk1) f.sm) (hs2 : Buf w (.slice sp2 f.tm.length sk2) f.tm) (ht1 : Buf w (.slice tp1 g.sm.length tk1) g.sm) (ht2 : Buf w (.slice tp2 g.tm.length tk2) g.tm) :
    Calls Tryd.prog 21 #[.agg #[.int .i64 f.op, .slice sp1 f.sm.length sk1, .int .u32 f.si, .slice sp2 f.tm.length sk2, .int .u32 f.ti], .agg #[.int .i64 g.op, .slice tp1 g.sm.length tk1, .int .u32 g.si, .slice tp2 g.tm.length tk2, .int .u32 g.ti]] w fun e w' => e = .returned (.bool false) ∧ Grew w w' := by
  have g0 : Grew w ((w.alloc (.cells #[.int .i64 f.op, .slice sp1 f.sm.length sk1, .int .u32 f.si, .slice sp2 f.tm.length sk2, .int .u32 f.ti] 34)).alloc (.cells #[.int .i64 g.op, .slice tp1 g.sm.length tk1, .int .u32 g.si, .slice tp2 g.tm.length tk2, .int .u32 g.ti] 34)) := ((Grew.refl _).alloc _).alloc _
  have hA0 : Blk ((w.alloc (.cells #[.int .i64 f.op, .slice sp1 f.sm.length sk1, .int .u32 f.si, .slice sp2 f.tm.length sk2, .int .u32 f.ti] 34)).alloc (.cells #[.int .i64 g.op, .slice tp1 g.sm.length tk1, .int .u32 g.si, .slice tp2 g.tm.length tk2, .int .u32 g.ti] 34)) w.heap.size #[.int .i64 f.op, .slice sp1 f.sm.length sk1, .int .u32 f.si, .slice sp2 f.tm.length sk2, .int .u32 f.ti] 34 := (Blk.new _ _ _ _ rfl).alloc _
  have hB0 : Blk ((w.alloc (.cells #[.int .i64 f.op, .slice sp1 f.sm.length sk1, .int .u32 f.si, .slice sp2 f.tm.length sk2, .int .u32 f.ti] 34)).alloc (.cells #[.int .i64 g.op, .slice tp1 g.sm.length tk1, .int .u32 g.si, .slice tp2 g.tm.length tk2, .int .u32 g.ti] 34)) (w.heap.size + 1) #[.int .i64 g.op, .slice tp1 g.sm.length tk1, .int .u32 g.si, .slice tp2 g.tm.length tk2, .int .u32 g.ti] 34 := Blk.new _ _ _ _ (by simp)
  have cs1 := convert_bytes (hs1.grew g0).bytes
  have ct1 := convert_bytes (ht1.grew g0).bytes
  have cs2 := convert_bytes (hs2.grew g0).bytes
  have ct2 := convert_bytes (ht2.grew g0).bytes
  clear hs1 ht1 hs2 ht2
  go_enter Tryd.func21, Tryd.ntmps21
  go_upto_region 1 with fail
  generalize ((w.alloc (.cells #[.int .i64 f.op, .slice sp1 f.sm.length sk1, .int .u32 f.si, .slice sp2 f.tm.length sk2, .int .u32 f.ti] 34)).alloc (.cells #[.int .i64 g.op, .slice tp1 g.sm.length tk1, .int .u32 g.si, .slice tp2 g.tm.length tk2, .int .u32 g.ti] 34)) = w0 at *
  generalize w.heap.size + 1 = B at *
  generalize w.heap.size = A at *
  have y0 := hA0.cell 0
  have y1 := hA0.cell 1
  have y2 := hA0.cell 2
  have y3 := hA0.cell 3
  have y4 := hA0.cell 4
  have z0 := hB0.cell 0
  have z1 := hB0.cell 1
  have z2 := hB0.cell 2
  have z3 := hB0.cell 3
  have z4 := hB0.cell 4
  go_wp2_with fail
  go_ret
  exact ⟨rfl, g0⟩
theorem arps16_1 {f g : AR} {sp1 : Option Addr} {sk1 : Nat} {sp2 : Option Addr} {sk2 : Nat} {tp1 : Option Addr} {tk1 : Nat} {tp2 : Option Addr} {tk2 : Nat} (h0 : (f.op == g.op) = true) (h1 : decide (f.sm = g.sm) = false) {w : World} (hs1 : Buf w (.slice sp1 f.sm.length sk1) f.sm) (hs2 : Buf w (.slice sp2 f.tm.length sk2) f.tm) (ht1 : Buf w (.slice tp1 g.sm.length tk1) g.sm) (ht2 : Buf w (.slice tp2 g.tm.length tk2) g.tm) :
    Calls Tryd.prog 21 #[.agg #[.int .i64 f.op, .slice sp1 f.sm.length sk1, .int .u32 f.si, .slice sp2 f.tm.length sk2, .int .u32 f.ti], .agg #[.int .i64 g.op, .slice tp1 g.sm.length tk1, .int .u32 g.si, .slice tp2 g.tm.length tk2, .int .u32 g.ti]] w fun e w' => e = .returned (.bool false) ∧ Grew w w' := by
  have hd0 := strOf_eq hs1.ok ht1.ok
  rw [h1] at hd0
  have g0 : Grew w ((w.alloc (.cells #[.int .i64 f.op, .slice sp1 f.sm.length sk1, .int .u32 f.si, .slice sp2 f.tm.length sk2, .int .u32 f.ti] 34)).alloc (.cells #[.int .i64 g.op, .slice tp1 g.sm.length tk1, .int .u32 g.si, .slice tp2 g.tm.length tk2, .int .u32 g.ti] 34)) := ((Grew.refl _).alloc _).alloc _
  have hA0 : Blk ((w.alloc (.cells #[.int .i64 f.op, .slice sp1 f.sm.length sk1, .int .u32 f.si, .slice sp2 f.tm.length sk2, .int .u32 f.ti] 34)).alloc (.cells #[.int .i64 g.op, .slice tp1 g.sm.length tk1, .int .u32 g.si, .slice tp2 g.tm.length tk2, .int .u32 g.ti] 34)) w.heap.size #[.int .i64 f.op, .slice sp1 f.sm.length sk1, .int .u32 f.si, .slice sp2 f.tm.length sk2, .int .u32 f.ti] 34 := (Blk.new _ _ _ _ rfl).alloc _
  have hB0 : Blk ((w.alloc (.cells #[.int .i64 f.op, .slice sp1 f.sm.length sk1, .int .u32 f.si, .slice sp2 f.tm.length sk2, .int .u32 f.ti] 34)).alloc (.cells #[.int .i64 g.op, .slice tp1 g.sm.length tk1, .int .u32 g.si, .slice tp2 g.tm.length tk2, .int .u32 g.ti] 34)) (w.heap.size + 1) #[.int .i64 g.op, .slice tp1 g.sm.length tk1, .int .u32 g.si, .slice tp2 g.tm.length tk2, .int .u32 g.ti] 34 := Blk.new _ _ _ _ (by simp)
  have cs1 := convert_bytes (hs1.grew g0).bytes
  have ct1 := convert_bytes (ht1.grew g0).bytes
  have cs2 := convert_bytes (hs2.grew g0).bytes
  have ct2 := convert_bytes (ht2.grew g0).bytes
  clear hs1 ht1 hs2 ht2
  go_enter Tryd.func21, Tryd.ntmps21
  go_upto_region 1 with fail
  generalize ((w.alloc (.cells #[.int .i64 f.op, .slice sp1 f.sm.length sk1, .int .u32 f.si, .slice sp2 f.tm.length sk2, .int .u32 f.ti] 34)).alloc (.cells #[.int .i64 g.op, .slice tp1 g.sm.length tk1, .int .u32 g.si, .slice tp2 g.tm.length tk2, .int .u32 g.ti] 34)) = w0 at *
  generalize w.heap.size + 1 = B at *
  generalize w.heap.size = A at *
  have y0 := hA0.cell 0
  have y1 := hA0.cell 1
  have y2 := hA0.cell 2
  have y3 := hA0.cell 3
  have y4 := hA0.cell 4
  have z0 := hB0.cell 0
  have z1 := hB0.cell 1
  have z2 := hB0.cell 2
  have z3 := hB0.cell 3
  have z4 := hB0.cell 4
  go_wp2_with fail
  go_ret
  exact ⟨rfl, g0⟩
theorem arps16_2 {f g : AR} {sp1 : Option Addr} {sk1 : Nat} {sp2 : Option Addr} {sk2 : Nat} {tp1 : Option Addr} {tk1 : Nat} {tp2 : Option Addr} {tk2 : Nat} (h0 : (f.op == g.op) = true) (h1 : decide (f.sm = g.sm) = true) (h2 : (f.si == g.si) = false) {w : World} (hs1 : Buf w (.slice sp1 f.sm.length sk1) f.sm) (hs2 : Buf w (.slice sp2 f.tm.length sk2) f.tm) (ht1 : Buf w (.slice tp1 g.sm.length tk1) g.sm) (ht2 : Buf w (.slice tp2 g.tm.length tk2) g.tm) :
    Calls Tryd.prog 21 #[.agg #[.int .i64 f.op, .slice sp1 f.sm.length sk1, .int .u32 f.si, .slice sp2 f.tm.length sk2, .int .u32 f.ti], .agg #[.int .i64 g.op, .slice tp1 g.sm.length tk1, .int .u32 g.si, .slice tp2 g.tm.length tk2, .int .u32 g.ti]] w fun e w' => e = .returned (.bool false) ∧ Grew w w' := by
  have hd0 := strOf_eq hs1.ok ht1.ok
  rw [h1] at hd0
  have g0 : Grew w ((w.alloc (.cells #[.int .i64 f.op, .slice sp1 f.sm.length sk1, .int .u32 f.si, .slice sp2 f.tm.length sk2, .int .u32 f.ti] 34)).alloc (.cells #[.int .i64 g.op, .slice tp1 g.sm.length tk1, .int .u32 g.si, .slice tp2 g.tm.length tk2, .int .u32 g.ti] 34)) := ((Grew.refl _).alloc _).alloc _
  have hA0 : Blk ((w.alloc (.cells #[.int .i64 f.op, .slice sp1 f.sm.length sk1, .int .u32 f.si, .slice sp2 f.tm.length sk2, .int .u32 f.ti] 34)).alloc (.cells #[.int .i64 g.op, .slice tp1 g.sm.length tk1, .int .u32 g.si, .slice tp2 g.tm.length tk2, .int .u32 g.ti] 34)) w.heap.size #[.int .i64 f.op, .slice sp1 f.sm.length sk1, .int .u32 f.si, .slice sp2 f.tm.length sk2, .int .u32 f.ti] 34 := (Blk.new _ _ _ _ rfl).alloc _
  have hB0 : Blk ((w.alloc (.cells #[.int .i64 f.op, .slice sp1 f.sm.length sk1, .int .u32 f.si, .slice sp2 f.tm.length sk2, .int .u32 f.ti] 34)).alloc (.cells #[.int .i64 g.op, .slice tp1 g.sm.length tk1, .int .u32 g.si, .slice tp2 g.tm.length tk2, .int .u32 g.ti] 34)) (w.heap.size + 1) #[.int .i64 g.op, .slice tp1 g.sm.length tk1, .int .u32 g.si, .slice tp2 g.tm.length tk2, .int .u32 g.ti] 34 := Blk.new _ _ _ _ (by simp)
  have cs1 := convert_bytes (hs1.grew g0).bytes
  have ct1 := convert_bytes (ht1.grew g0).bytes
  have cs2 := convert_bytes (hs2.grew g0).bytes
  have ct2 := convert_bytes (ht2.grew g0).bytes
  clear hs1 ht1 hs2 ht2
  go_enter Tryd.func21, Tryd.ntmps21
  go_upto_region 1 with fail
  generalize ((w.alloc (.cells #[.int .i64 f.op, .slice sp1 f.sm.length sk1, .int .u32 f.si, .slice sp2 f.tm.length sk2, .int .u32 f.ti] 34)).alloc (.cells #[.int .i64 g.op, .slice tp1 g.sm.length tk1, .int .u32 g.si, .slice tp2 g.tm.length tk2, .int .u32 g.ti] 34)) = w0 at *
  generalize w.heap.size + 1 = B at *
  generalize w.heap.size = A at *
  have y0 := hA0.cell 0
  have y1 := hA0.cell 1
  have y2 := hA0.cell 2
  have y3 := hA0.cell 3
  have y4 := hA0.cell 4
  have z0 := hB0.cell 0
  have z1 := hB0.cell 1
  have z2 := hB0.cell 2
  have z3 := hB0.cell 3
  have z4 := hB0.cell 4
  go_wp2_with fail
  go_ret
  exact ⟨rfl, g0⟩
theorem arps16_3 {f g : AR} {sp1 : Option Addr} {sk1 : Nat} {sp2 : Option Addr} {sk2 : Nat} {tp1 : Option Addr} {tk1 : Nat} {tp2 : Option Addr} {tk2 : Nat} (h0 : (f.op == g.op) = true) (h1 : decide (f.sm = g.sm) = true) (h2 : (f.si == g.si) = true) (h3 : decide (f.tm = g.tm) = false) {w : World} (hs1 : Buf w (.slice sp1 f.sm.length sk1) f.sm) (hs2 : Buf w (.slice sp2 f.tm.length sk2) f.tm) (ht1 : Buf w (.slice tp1 g.sm.length tk1) g.sm) (ht2 : Buf w (.slice tp2 g.tm.length tk2) g.tm) :
    Calls Tryd.prog 21 #[.agg #[.int .i64 f.op, .slice sp1 f.sm.length sk1, .int .u32 f.si, .slice sp2 f.tm.length sk2, .int .u32 f.ti], .agg #[.int .i64 g.op, .slice tp1 g.sm.length tk1, .int .u32 g.si, .slice tp2 g.tm.length tk2, .int .u32 g.ti]] w fun e w' => e = .returned (.bool false) ∧ Grew w w' := by
  have hd0 := strOf_eq hs1.ok ht1.ok
  rw [h1] at hd0
  have hd1 := strOf_eq hs2.ok ht2.ok
  rw [h3] at hd1
  have g0 : Grew w ((w.alloc (.cells #[.int .i64 f.op, .slice sp1 f.sm.length sk1, .int .u32 f.si, .slice sp2 f.tm.length sk2, .int .u32 f.ti] 34)).alloc (.cells #[.int .i64 g.op, .slice tp1 g.sm.length tk1, .int .u32 g.si, .slice tp2 g.tm.length tk2, .int .u32 g.ti] 34)) := ((Grew.refl _).alloc _).alloc _
  have hA0 : Blk ((w.alloc (.cells #[.int .i64 f.op, .slice sp1 f.sm.length sk1, .int .u32 f.si, .slice sp2 f.tm.length sk2, .int .u32 f.ti] 34)).alloc (.cells #[.int .i64 g.op, .slice tp1 g.sm.length tk1, .int .u32 g.si, .slice tp2 g.tm.length tk2, .int .u32 g.ti] 34)) w.heap.size #[.int .i64 f.op, .slice sp1 f.sm.length sk1, .int .u32 f.si, .slice sp2 f.tm.length sk2, .int .u32 f.ti] 34 := (Blk.new _ _ _ _ rfl).alloc _
  have hB0 : Blk ((w.alloc (.cells #[.int .i64 f.op, .slice sp1 f.sm.length sk1, .int .u32 f.si, .slice sp2 f.tm.length sk2, .int .u32 f.ti] 34)).alloc (.cells #[.int .i64 g.op, .slice tp1 g.sm.length tk1, .int .u32 g.si, .slice tp2 g.tm.length tk2, .int .u32 g.ti] 34)) (w.heap.size + 1) #[.int .i64 g.op, .slice tp1 g.sm.length tk1, .int .u32 g.si, .slice tp2 g.tm.length tk2, .int .u32 g.ti] 34 := Blk.new _ _ _ _ (by simp)
  have cs1 := convert_bytes (hs1.grew g0).bytes
  have ct1 := convert_bytes (ht1.grew g0).bytes
  have cs2 := convert_bytes (hs2.grew g0).bytes
  have ct2 := convert_bytes (ht2.grew g0).bytes
  clear hs1 ht1 hs2 ht2
  go_enter Tryd.func21, Tryd.ntmps21
  go_upto_region 1 with fail
  generalize ((w.alloc (.cells #[.int .i64 f.op, .slice sp1 f.sm.length sk1, .int .u32 f.si, .slice sp2 f.tm.length sk2, .int .u32 f.ti] 34)).alloc (.cells #[.int .i64 g.op, .slice tp1 g.sm.length tk1, .int .u32 g.si, .slice tp2 g.tm.length tk2, .int .u32 g.ti] 34)) = w0 at *
  generalize w.heap.size + 1 = B at *
  generalize w.heap.size = A at *
  have y0 := hA0.cell 0
  have y1 := hA0.cell 1
  have y2 := hA0.cell 2
  have y3 := hA0.cell 3
  have y4 := hA0.cell 4
  have z0 := hB0.cell 0
  have z1 := hB0.cell 1
  have z2 := hB0.cell 2
  have z3 := hB0.cell 3
  have z4 := hB0.cell 4
  go_wp2_with fail
  go_ret
  exact ⟨rfl, g0⟩
theorem arps16_4 {f g : AR} {sp1 : Option Addr} {sk1 : Nat} {sp2 : Option Addr} {sk2 : Nat} {tp1 : Option Addr} {tk1 : Nat} {tp2 : Option Addr} {tk2 : Nat} (h0 : (f.op == g.op) = true) (h1 : decide (f.sm = g.sm) = true) (h2 : (f.si == g.si) = true) (h3 : decide (f.tm = g.tm) = true) (h4 : (f.ti == g.ti) = false) {w : World} (hs1 : Buf w (.slice sp1 f.sm.length sk1) f.sm) (hs2 : Buf w (.slice sp2 f.tm.length sk2) f.tm) (ht1 : Buf w (.slice tp1 g.sm.length tk1) g.sm) (ht2 : Buf w (.slice tp2 g.tm.length tk2) g.tm) :
    Calls Tryd.prog 21 #[.agg #[.int .i64 f.op, .slice sp1 f.sm.length sk1, .int .u32 f.si, .slice sp2 f.tm.length sk2, .int .u32 f.ti], .agg #[.int .i64 g.op, .slice tp1 g.sm.length tk1, .int .u32 g.si, .slice tp2 g.tm.length tk2, .int .u32 g.ti]] w fun e w' => e = .returned (.bool false) ∧ Grew w w' := by
  have hd0 := strOf_eq hs1.ok ht1.ok
  rw [h1] at hd0
  have hd1 := strOf_eq hs2.ok ht2.ok
  rw [h3] at hd1
  have g0 : Grew w ((w.alloc (.cells #[.int .i64 f.op, .slice sp1 f.sm.length sk1, .int .u32 f.si, .slice sp2 f.tm.length sk2, .int .u32 f.ti] 34)).alloc (.cells #[.int .i64 g.op, .slice tp1 g.sm.length tk1, .int .u32 g.si, .slice tp2 g.tm.length tk2, .int .u32 g.ti] 34)) := ((Grew.refl _).alloc _).alloc _
  have hA0 : Blk ((w.alloc (.cells #[.int .i64 f.op, .slice sp1 f.sm.length sk1, .int .u32 f.si, .slice sp2 f.tm.length sk2, .int .u32 f.ti] 34)).alloc (.cells #[.int .i64 g.op, .slice tp1 g.sm.length tk1, .int .u32 g.si, .slice tp2 g.tm.length tk2, .int .u32 g.ti] 34)) w.heap.size #[.int .i64 f.op, .slice sp1 f.sm.length sk1, .int .u32 f.si, .slice sp2 f.tm.length sk2, .int .u32 f.ti] 34 := (Blk.new _ _ _ _ rfl).alloc _
  have hB0 : Blk ((w.alloc (.cells #[.int .i64 f.op, .slice sp1 f.sm.length sk1, .int .u32 f.si, .slice sp2 f.tm.length sk2, .int .u32 f.ti] 34)).alloc (.cells #[.int .i64 g.op, .slice tp1 g.sm.length tk1, .int .u32 g.si, .slice tp2 g.tm.length tk2, .int .u32 g.ti] 34)) (w.heap.size + 1) #[.int .i64 g.op, .slice tp1 g.sm.length tk1, .int .u32 g.si, .slice tp2 g.tm.length tk2, .int .u32 g.ti] 34 := Blk.new _ _ _ _ (by simp)
  have cs1 := convert_bytes (hs1.grew g0).bytes
  have ct1 := convert_bytes (ht1.grew g0).bytes
  have cs2 := convert_bytes (hs2.grew g0).bytes
  have ct2 := convert_bytes (ht2.grew g0).bytes
  clear hs1 ht1 hs2 ht2
  go_enter Tryd.func21, Tryd.ntmps21
  go_upto_region 1 with fail
  generalize ((w.alloc (.cells #[.int .i64 f.op, .slice sp1 f.sm.length sk1, .int .u32 f.si, .slice sp2 f.tm.length sk2, .int .u32 f.ti] 34)).alloc (.cells #[.int .i64 g.op, .slice tp1 g.sm.length tk1, .int .u32 g.si, .slice tp2 g.tm.length tk2, .int .u32 g.ti] 34)) = w0 at *
  generalize w.heap.size + 1 = B at *
  generalize w.heap.size = A at *
  have y0 := hA0.cell 0
  have y1 := hA0.cell 1
  have y2 := hA0.cell 2
  have y3 := hA0.cell 3
  have y4 := hA0.cell 4
  have z0 := hB0.cell 0
  have z1 := hB0.cell 1
  have z2 := hB0.cell 2
  have z3 := hB0.cell 3
  have z4 := hB0.cell 4
  go_wp2_with fail
  go_ret
  exact ⟨rfl, g0⟩
theorem arps16_5 {f g : AR} {sp1 : Option Addr} {sk1 : Nat} {sp2 : Option Addr} {sk2 : Nat} {tp1 : Option Addr} {tk1 : Nat} {tp2 : Option Addr} {tk2 : Nat} (h0 : (f.op == g.op) = true) (h1 : decide (f.sm = g.sm) = true) (h2 : (f.si == g.si) = true) (h3 : decide (f.tm = g.tm) = true) (h4 : (f.ti == g.ti) = true) {w : World} (hs1 : Buf w (.slice sp1 f.sm.length sk1) f.sm) (hs2 : Buf w (.slice sp2 f.tm.length sk2) f.tm) (ht1 : Buf w (.slice tp1 g.sm.length tk1) g.sm) (ht2 : Buf w (.slice tp2 g.tm.length tk2) g.tm) :
    Calls Tryd.prog 21 #[.agg #[.int .i64 f.op, .slice sp1 f.sm.length sk1, .int .u32 f.si, .slice sp2 f.tm.length sk2, .int .u32 f.ti], .agg #[.int .i64 g.op, .slice tp1 g.sm.length tk1, .int .u32 g.si, .slice tp2 g.tm.length tk2, .int .u32 g.ti]] w fun e w' => e = .returned (.bool true) ∧ Grew w w' := by
  have hd0 := strOf_eq hs1.ok ht1.ok
  rw [h1] at hd0
  have hd1 := strOf_eq hs2.ok ht2.ok
  rw [h3] at hd1
  have g0 : Grew w ((w.alloc (.cells #[.int .i64 f.op, .slice sp1 f.sm.length sk1, .int .u32 f.si, .slice sp2 f.tm.length sk2, .int .u32 f.ti] 34)).alloc (.cells #[.int .i64 g.op, .slice tp1 g.sm.length tk1, .int .u32 g.si, .slice tp2 g.tm.length tk2, .int .u32 g.ti] 34)) := ((Grew.refl _).alloc _).alloc _
  have hA0 : Blk ((w.alloc (.cells #[.int .i64 f.op, .slice sp1 f.sm.length sk1, .int .u32 f.si, .slice sp2 f.tm.length sk2, .int .u32 f.ti] 34)).alloc (.cells #[.int .i64 g.op, .slice tp1 g.sm.length tk1, .int .u32 g.si, .slice tp2 g.tm.length tk2, .int .u32 g.ti] 34)) w.heap.size #[.int .i64 f.op, .slice sp1 f.sm.length sk1, .int .u32 f.si, .slice sp2 f.tm.length sk2, .int .u32 f.ti] 34 := (Blk.new _ _ _ _ rfl).alloc _
  have hB0 : Blk ((w.alloc (.cells #[.int .i64 f.op, .slice sp1 f.sm.length sk1, .int .u32 f.si, .slice sp2 f.tm.length sk2, .int .u32 f.ti] 34)).alloc (.cells #[.int .i64 g.op, .slice tp1 g.sm.length tk1, .int .u32 g.si, .slice tp2 g.tm.length tk2, .int .u32 g.ti] 34)) (w.heap.size + 1) #[.int .i64 g.op, .slice tp1 g.sm.length tk1, .int .u32 g.si, .slice tp2 g.tm.length tk2, .int .u32 g.ti] 34 := Blk.new _ _ _ _ (by simp)
  have cs1 := convert_bytes (hs1.grew g0).bytes
  have ct1 := convert_bytes (ht1.grew g0).bytes
  have cs2 := convert_bytes (hs2.grew g0).bytes
  have ct2 := convert_bytes (ht2.grew g0).bytes
  clear hs1 ht1 hs2 ht2
  go_enter Tryd.func21, Tryd.ntmps21
  go_upto_region 1 with fail
  generalize ((w.alloc (.cells #[.int .i64 f.op, .slice sp1 f.sm.length sk1, .int .u32 f.si, .slice sp2 f.tm.length sk2, .int .u32 f.ti] 34)).alloc (.cells #[.int .i64 g.op, .slice tp1 g.sm.length tk1, .int .u32 g.si, .slice tp2 g.tm.length tk2, .int .u32 g.ti] 34)) = w0 at *
  generalize w.heap.size + 1 = B at *
  generalize w.heap.size = A at *
  have y0 := hA0.cell 0
  have y1 := hA0.cell 1
  have y2 := hA0.cell 2
  have y3 := hA0.cell 3
  have y4 := hA0.cell 4
  have z0 := hB0.cell 0
  have z1 := hB0.cell 1
  have z2 := hB0.cell 2
  have z3 := hB0.cell 3
  have z4 := hB0.cell 4
  go_wp2_with fail
  go_ret
  exact ⟨rfl, g0⟩
theorem arps16_c {v u : Value} {f g : AR} {w : World} (hv : Ar w v f) (hu : Ar w u g) :
    Calls Tryd.prog 21 #[v, u] w fun e w' => e = .returned (.bool ((f.op == g.op) && decide (f.sm = g.sm) && (f.si == g.si) && decide (f.tm = g.tm) && (f.ti == g.ti))) ∧ Grew w w' := by
  obtain ⟨sp1, sk1, sp2, sk2, rfl, sb1, sb2⟩ := hv.shape
  obtain ⟨tp1, tk1, tp2, tk2, rfl, tb1, tb2⟩ := hu.shape
  cases h0 : (f.op == g.op)
  · simp only [Bool.and_false, Bool.false_and]; exact arps16_0 h0 sb1 sb2 tb1 tb2
  · skip
    cases h1 : decide (f.sm = g.sm)
    · simp only [Bool.and_false, Bool.false_and]; exact arps16_1 h0 h1 sb1 sb2 tb1 tb2
    · skip
      cases h2 : (f.si == g.si)
      · simp only [Bool.and_false, Bool.false_and]; exact arps16_2 h0 h1 h2 sb1 sb2 tb1 tb2
      · skip
        cases h3 : decide (f.tm = g.tm)
        · simp only [Bool.and_false, Bool.false_and]; exact arps16_3 h0 h1 h2 h3 sb1 sb2 tb1 tb2
        · skip
          cases h4 : (f.ti == g.ti)
          · simp only [Bool.and_false, Bool.false_and]; exact arps16_4 h0 h1 h2 h3 h4 sb1 sb2 tb1 tb2
          · exact arps16_5 h0 h1 h2 h3 h4 sb1 sb2 tb1 tb2
end Go.Proofs.YtolfaelalmmefaaDoor
