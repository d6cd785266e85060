/-
  The document's own Put of a segment.
-/
import Derived.Test.YtiaejlbkdgcfiaaSgR
import Derived.Test.YtiaejlbkdgcfiaaRowSet
set_option maxRecDepth 4000
set_option linter.unusedVariables false
set_option linter.unusedSimpArgs false
namespace Go.Proofs.Ytiaejlbkdgcfiaa
open Go.RowKit

theorem set_two (xs : List Int) (k : Nat) (x y : Int) (h : k + 2 ≤ xs.length) : (xs.set k x).set (k + 1) y = putTwo xs k x y := by
  unfold putTwo
  rw [← lay_cons xs [y] x k (by omega), ← lay_cons (xs.set k x) [] y (k + 1) (by rw [List.length_set]; omega), lay_nil]
theorem refPutS_0 {f : SGR} {p1 : Option Addr} {k1 : Nat} (src dst : Int)  (q0 : wordV f.s = false) (w : World) :
    Calls Try.prog 9 #[.agg #[.int .i64 f.s, .int .i64 f.d, .int .u32 f.q, .int .u32 f.a, .int .i64 f.fl, .int .i64 f.wn, .int .i64 f.m, .slice p1 f.x.length k1], .int .u32 src, .int .u32 dst] w fun e w' => e = .returned (.tuple #[.slice none 0 0, .int .i64 2]) ∧ Grew w w' := by
  go_enter Try.func9, Try.ntmps9
  go_upto_region 1 with fail
  have hB : Blk (w.alloc (.cells #[.int .i64 f.s, .int .i64 f.d, .int .u32 f.q, .int .u32 f.a, .int .i64 f.fl, .int .i64 f.wn, .int .i64 f.m, .slice p1 f.x.length k1] 25)) w.heap.size #[.int .i64 f.s, .int .i64 f.d, .int .u32 f.q, .int .u32 f.a, .int .i64 f.fl, .int .i64 f.wn, .int .i64 f.m, .slice p1 f.x.length k1] 25 := Blk.new _ _ _ _ rfl
  have g0 : Grew w (w.alloc (.cells #[.int .i64 f.s, .int .i64 f.d, .int .u32 f.q, .int .u32 f.a, .int .i64 f.fl, .int .i64 f.wn, .int .i64 f.m, .slice p1 f.x.length k1] 25)) := (Grew.refl _).alloc _
  generalize (w.alloc (.cells #[.int .i64 f.s, .int .i64 f.d, .int .u32 f.q, .int .u32 f.a, .int .i64 f.fl, .int .i64 f.wn, .int .i64 f.m, .slice p1 f.x.length k1] 25)) = w0 at *
  generalize hlB : w.heap.size = B at *
  have y0 := hB.cell 0
  have y1 := hB.cell 1
  have y2 := hB.cell 2
  have y3 := hB.cell 3
  have y4 := hB.cell 4
  have y5 := hB.cell 5
  have y6 := hB.cell 6
  have y7 := hB.cell 7
  go_wp2_with (first | (go_at_call 26; refine (refWord_c _ _ (by assumption) _).mono ?_; rintro e w2 ⟨rfl, h2⟩; obtain rfl := h2.symm))
  go_ret2
  exact ⟨rfl, g0⟩
theorem refPutS_1 {f : SGR} {p1 : Option Addr} {k1 : Nat} (src dst : Int) (q0 : wordV f.s = true) (q1 : wordV f.d = false) (w : World) :
    Calls Try.prog 9 #[.agg #[.int .i64 f.s, .int .i64 f.d, .int .u32 f.q, .int .u32 f.a, .int .i64 f.fl, .int .i64 f.wn, .int .i64 f.m, .slice p1 f.x.length k1], .int .u32 src, .int .u32 dst] w fun e w' => e = .returned (.tuple #[.slice none 0 0, .int .i64 2]) ∧ Grew w w' := by
  go_enter Try.func9, Try.ntmps9
  go_upto_region 1 with fail
  have hB : Blk (w.alloc (.cells #[.int .i64 f.s, .int .i64 f.d, .int .u32 f.q, .int .u32 f.a, .int .i64 f.fl, .int .i64 f.wn, .int .i64 f.m, .slice p1 f.x.length k1] 25)) w.heap.size #[.int .i64 f.s, .int .i64 f.d, .int .u32 f.q, .int .u32 f.a, .int .i64 f.fl, .int .i64 f.wn, .int .i64 f.m, .slice p1 f.x.length k1] 25 := Blk.new _ _ _ _ rfl
  have g0 : Grew w (w.alloc (.cells #[.int .i64 f.s, .int .i64 f.d, .int .u32 f.q, .int .u32 f.a, .int .i64 f.fl, .int .i64 f.wn, .int .i64 f.m, .slice p1 f.x.length k1] 25)) := (Grew.refl _).alloc _
  generalize (w.alloc (.cells #[.int .i64 f.s, .int .i64 f.d, .int .u32 f.q, .int .u32 f.a, .int .i64 f.fl, .int .i64 f.wn, .int .i64 f.m, .slice p1 f.x.length k1] 25)) = w0 at *
  generalize hlB : w.heap.size = B at *
  have y0 := hB.cell 0
  have y1 := hB.cell 1
  have y2 := hB.cell 2
  have y3 := hB.cell 3
  have y4 := hB.cell 4
  have y5 := hB.cell 5
  have y6 := hB.cell 6
  have y7 := hB.cell 7
  go_wp2_with (first | (go_at_call 26; refine (refWord_c _ _ (by assumption) _).mono ?_; rintro e w2 ⟨rfl, h2⟩; obtain rfl := h2.symm))
  go_ret2
  exact ⟨rfl, g0⟩
theorem refPutS_2 {f : SGR} {p1 : Option Addr} {k1 : Nat} (src dst : Int) (q0 : wordV f.s = true) (q1 : wordV f.d = true) (q2 : wordV f.wn = false) (w : World) :
    Calls Try.prog 9 #[.agg #[.int .i64 f.s, .int .i64 f.d, .int .u32 f.q, .int .u32 f.a, .int .i64 f.fl, .int .i64 f.wn, .int .i64 f.m, .slice p1 f.x.length k1], .int .u32 src, .int .u32 dst] w fun e w' => e = .returned (.tuple #[.slice none 0 0, .int .i64 2]) ∧ Grew w w' := by
  go_enter Try.func9, Try.ntmps9
  go_upto_region 1 with fail
  have hB : Blk (w.alloc (.cells #[.int .i64 f.s, .int .i64 f.d, .int .u32 f.q, .int .u32 f.a, .int .i64 f.fl, .int .i64 f.wn, .int .i64 f.m, .slice p1 f.x.length k1] 25)) w.heap.size #[.int .i64 f.s, .int .i64 f.d, .int .u32 f.q, .int .u32 f.a, .int .i64 f.fl, .int .i64 f.wn, .int .i64 f.m, .slice p1 f.x.length k1] 25 := Blk.new _ _ _ _ rfl
  have g0 : Grew w (w.alloc (.cells #[.int .i64 f.s, .int .i64 f.d, .int .u32 f.q, .int .u32 f.a, .int .i64 f.fl, .int .i64 f.wn, .int .i64 f.m, .slice p1 f.x.length k1] 25)) := (Grew.refl _).alloc _
  generalize (w.alloc (.cells #[.int .i64 f.s, .int .i64 f.d, .int .u32 f.q, .int .u32 f.a, .int .i64 f.fl, .int .i64 f.wn, .int .i64 f.m, .slice p1 f.x.length k1] 25)) = w0 at *
  generalize hlB : w.heap.size = B at *
  have y0 := hB.cell 0
  have y1 := hB.cell 1
  have y2 := hB.cell 2
  have y3 := hB.cell 3
  have y4 := hB.cell 4
  have y5 := hB.cell 5
  have y6 := hB.cell 6
  have y7 := hB.cell 7
  go_wp2_with (first | (go_at_call 26; refine (refWord_c _ _ (by assumption) _).mono ?_; rintro e w2 ⟨rfl, h2⟩; obtain rfl := h2.symm))
  go_ret2
  exact ⟨rfl, g0⟩
theorem refPutS_3 {f : SGR} {p1 : Option Addr} {k1 : Nat} (src dst : Int) (q0 : wordV f.s = true) (q1 : wordV f.d = true) (q2 : wordV f.wn = true) (q3 : wordV f.m = false) (w : World) :
    Calls Try.prog 9 #[.agg #[.int .i64 f.s, .int .i64 f.d, .int .u32 f.q, .int .u32 f.a, .int .i64 f.fl, .int .i64 f.wn, .int .i64 f.m, .slice p1 f.x.length k1], .int .u32 src, .int .u32 dst] w fun e w' => e = .returned (.tuple #[.slice none 0 0, .int .i64 2]) ∧ Grew w w' := by
  go_enter Try.func9, Try.ntmps9
  go_upto_region 1 with fail
  have hB : Blk (w.alloc (.cells #[.int .i64 f.s, .int .i64 f.d, .int .u32 f.q, .int .u32 f.a, .int .i64 f.fl, .int .i64 f.wn, .int .i64 f.m, .slice p1 f.x.length k1] 25)) w.heap.size #[.int .i64 f.s, .int .i64 f.d, .int .u32 f.q, .int .u32 f.a, .int .i64 f.fl, .int .i64 f.wn, .int .i64 f.m, .slice p1 f.x.length k1] 25 := Blk.new _ _ _ _ rfl
  have g0 : Grew w (w.alloc (.cells #[.int .i64 f.s, .int .i64 f.d, .int .u32 f.q, .int .u32 f.a, .int .i64 f.fl, .int .i64 f.wn, .int .i64 f.m, .slice p1 f.x.length k1] 25)) := (Grew.refl _).alloc _
  generalize (w.alloc (.cells #[.int .i64 f.s, .int .i64 f.d, .int .u32 f.q, .int .u32 f.a, .int .i64 f.fl, .int .i64 f.wn, .int .i64 f.m, .slice p1 f.x.length k1] 25)) = w0 at *
  generalize hlB : w.heap.size = B at *
  have y0 := hB.cell 0
  have y1 := hB.cell 1
  have y2 := hB.cell 2
  have y3 := hB.cell 3
  have y4 := hB.cell 4
  have y5 := hB.cell 5
  have y6 := hB.cell 6
  have y7 := hB.cell 7
  go_wp2_with (first | (go_at_call 26; refine (refWord_c _ _ (by assumption) _).mono ?_; rintro e w2 ⟨rfl, h2⟩; obtain rfl := h2.symm))
  go_ret2
  exact ⟨rfl, g0⟩
theorem refPutS_4 {f : SGR} {p1 : Option Addr} {k1 : Nat} (src dst : Int) (q0 : wordV f.s = true) (q1 : wordV f.d = true) (q2 : wordV f.wn = true) (q3 : wordV f.m = true) (q4 : f.fl < 0) (w : World) :
    Calls Try.prog 9 #[.agg #[.int .i64 f.s, .int .i64 f.d, .int .u32 f.q, .int .u32 f.a, .int .i64 f.fl, .int .i64 f.wn, .int .i64 f.m, .slice p1 f.x.length k1], .int .u32 src, .int .u32 dst] w fun e w' => e = .returned (.tuple #[.slice none 0 0, .int .i64 2]) ∧ Grew w w' := by
  go_enter Try.func9, Try.ntmps9
  go_upto_region 1 with fail
  have hB : Blk (w.alloc (.cells #[.int .i64 f.s, .int .i64 f.d, .int .u32 f.q, .int .u32 f.a, .int .i64 f.fl, .int .i64 f.wn, .int .i64 f.m, .slice p1 f.x.length k1] 25)) w.heap.size #[.int .i64 f.s, .int .i64 f.d, .int .u32 f.q, .int .u32 f.a, .int .i64 f.fl, .int .i64 f.wn, .int .i64 f.m, .slice p1 f.x.length k1] 25 := Blk.new _ _ _ _ rfl
  have g0 : Grew w (w.alloc (.cells #[.int .i64 f.s, .int .i64 f.d, .int .u32 f.q, .int .u32 f.a, .int .i64 f.fl, .int .i64 f.wn, .int .i64 f.m, .slice p1 f.x.length k1] 25)) := (Grew.refl _).alloc _
  generalize (w.alloc (.cells #[.int .i64 f.s, .int .i64 f.d, .int .u32 f.q, .int .u32 f.a, .int .i64 f.fl, .int .i64 f.wn, .int .i64 f.m, .slice p1 f.x.length k1] 25)) = w0 at *
  generalize hlB : w.heap.size = B at *
  have y0 := hB.cell 0
  have y1 := hB.cell 1
  have y2 := hB.cell 2
  have y3 := hB.cell 3
  have y4 := hB.cell 4
  have y5 := hB.cell 5
  have y6 := hB.cell 6
  have y7 := hB.cell 7
  go_wp2_with (first | (go_at_call 26; refine (refWord_c _ _ (by assumption) _).mono ?_; rintro e w2 ⟨rfl, h2⟩; obtain rfl := h2.symm))
  go_ret2
  exact ⟨rfl, g0⟩
theorem refPutS_5 {f : SGR} {p1 : Option Addr} {k1 : Nat} (src dst : Int) (q0 : wordV f.s = true) (q1 : wordV f.d = true) (q2 : wordV f.wn = true) (q3 : wordV f.m = true) (q4 : ¬ (f.fl < 0)) (q5 : 63 < f.fl) (w : World) :
    Calls Try.prog 9 #[.agg #[.int .i64 f.s, .int .i64 f.d, .int .u32 f.q, .int .u32 f.a, .int .i64 f.fl, .int .i64 f.wn, .int .i64 f.m, .slice p1 f.x.length k1], .int .u32 src, .int .u32 dst] w fun e w' => e = .returned (.tuple #[.slice none 0 0, .int .i64 2]) ∧ Grew w w' := by
  go_enter Try.func9, Try.ntmps9
  go_upto_region 1 with fail
  have hB : Blk (w.alloc (.cells #[.int .i64 f.s, .int .i64 f.d, .int .u32 f.q, .int .u32 f.a, .int .i64 f.fl, .int .i64 f.wn, .int .i64 f.m, .slice p1 f.x.length k1] 25)) w.heap.size #[.int .i64 f.s, .int .i64 f.d, .int .u32 f.q, .int .u32 f.a, .int .i64 f.fl, .int .i64 f.wn, .int .i64 f.m, .slice p1 f.x.length k1] 25 := Blk.new _ _ _ _ rfl
  have g0 : Grew w (w.alloc (.cells #[.int .i64 f.s, .int .i64 f.d, .int .u32 f.q, .int .u32 f.a, .int .i64 f.fl, .int .i64 f.wn, .int .i64 f.m, .slice p1 f.x.length k1] 25)) := (Grew.refl _).alloc _
  generalize (w.alloc (.cells #[.int .i64 f.s, .int .i64 f.d, .int .u32 f.q, .int .u32 f.a, .int .i64 f.fl, .int .i64 f.wn, .int .i64 f.m, .slice p1 f.x.length k1] 25)) = w0 at *
  generalize hlB : w.heap.size = B at *
  have y0 := hB.cell 0
  have y1 := hB.cell 1
  have y2 := hB.cell 2
  have y3 := hB.cell 3
  have y4 := hB.cell 4
  have y5 := hB.cell 5
  have y6 := hB.cell 6
  have y7 := hB.cell 7
  go_wp2_with (first | (go_at_call 26; refine (refWord_c _ _ (by assumption) _).mono ?_; rintro e w2 ⟨rfl, h2⟩; obtain rfl := h2.symm))
  go_ret2
  exact ⟨rfl, g0⟩
theorem refPutS_6 {f : SGR} {p1 : Option Addr} {k1 : Nat} (src dst : Int) (q0 : wordV f.s = true) (q1 : wordV f.d = true) (q2 : wordV f.wn = true) (q3 : wordV f.m = true) (q4 : ¬ (f.fl < 0)) (q5 : ¬ (63 < f.fl)) (q6 : (60000 : Int) < (f.x.length : Nat)) (w : World) :
    Calls Try.prog 9 #[.agg #[.int .i64 f.s, .int .i64 f.d, .int .u32 f.q, .int .u32 f.a, .int .i64 f.fl, .int .i64 f.wn, .int .i64 f.m, .slice p1 f.x.length k1], .int .u32 src, .int .u32 dst] w fun e w' => e = .returned (.tuple #[.slice none 0 0, .int .i64 2]) ∧ Grew w w' := by
  go_enter Try.func9, Try.ntmps9
  go_upto_region 1 with fail
  have hB : Blk (w.alloc (.cells #[.int .i64 f.s, .int .i64 f.d, .int .u32 f.q, .int .u32 f.a, .int .i64 f.fl, .int .i64 f.wn, .int .i64 f.m, .slice p1 f.x.length k1] 25)) w.heap.size #[.int .i64 f.s, .int .i64 f.d, .int .u32 f.q, .int .u32 f.a, .int .i64 f.fl, .int .i64 f.wn, .int .i64 f.m, .slice p1 f.x.length k1] 25 := Blk.new _ _ _ _ rfl
  have g0 : Grew w (w.alloc (.cells #[.int .i64 f.s, .int .i64 f.d, .int .u32 f.q, .int .u32 f.a, .int .i64 f.fl, .int .i64 f.wn, .int .i64 f.m, .slice p1 f.x.length k1] 25)) := (Grew.refl _).alloc _
  generalize (w.alloc (.cells #[.int .i64 f.s, .int .i64 f.d, .int .u32 f.q, .int .u32 f.a, .int .i64 f.fl, .int .i64 f.wn, .int .i64 f.m, .slice p1 f.x.length k1] 25)) = w0 at *
  generalize hlB : w.heap.size = B at *
  have y0 := hB.cell 0
  have y1 := hB.cell 1
  have y2 := hB.cell 2
  have y3 := hB.cell 3
  have y4 := hB.cell 4
  have y5 := hB.cell 5
  have y6 := hB.cell 6
  have y7 := hB.cell 7
  go_wp2_with (first | (go_at_call 26; refine (refWord_c _ _ (by assumption) _).mono ?_; rintro e w2 ⟨rfl, h2⟩; obtain rfl := h2.symm))
  go_ret2
  exact ⟨rfl, g0⟩
set_option maxHeartbeats 8000000 in
theorem refPutS_yes0 {f : SGR} {p1 : Option Addr} {k1 : Nat} (src dst : Int) (hs : 0 ≤ src ∧ src < 4294967296) (hd : 0 ≤ dst ∧ dst < 4294967296) (hok : okSG f = true) (hm : f.m = 0) {w : World} (hq : 0 ≤ f.q ∧ f.q < 4294967296) (ha : 0 ≤ f.a ∧ f.a < 4294967296) (hb1 : Buf w (.slice p1 f.x.length k1) f.x) :
    Calls Try.prog 9 #[.agg #[.int .i64 f.s, .int .i64 f.d, .int .u32 f.q, .int .u32 f.a, .int .i64 f.fl, .int .i64 f.wn, .int .i64 f.m, .slice p1 f.x.length k1], .int .u32 src, .int .u32 dst] w fun e w' => ∃ u, e = .returned (.tuple #[u, .int .i64 0]) ∧ Buf w' u (putSG f src dst) ∧ Grew w w' := by
  have hk := okSG_spec hok
  have hkk := hk
  obtain ⟨⟨hs0, hs1⟩, ⟨hd0, hd1⟩, ⟨hw0, hw1⟩, ⟨hm0, hm1⟩, ⟨hf0, hf1⟩, hxl⟩ := hkk
  have q0 : wordV f.s = true := by unfold wordV; exact decide_eq_true (by omega)
  have q1 : wordV f.d = true := by unfold wordV; exact decide_eq_true (by omega)
  have q2 : wordV f.wn = true := by unfold wordV; exact decide_eq_true (by omega)
  have q3 : wordV f.m = true := by unfold wordV; exact decide_eq_true (by omega)
  have q4 : ¬ (f.fl < 0) := by omega
  have q5 : ¬ (63 < f.fl) := by omega
  have q6 : ¬ ((60000 : Int) < (f.x.length : Nat)) := by omega
  have eo : opSG f = [] := by unfold opSG; rw [if_pos hm]
  have m0 : (f.m != 0) = false := by simpa using hm
  clear hm
  have HNs := Lib.hid (show 0 ≤ f.s ∧ f.s < 18446744073709551616 by omega)
  have HNd := Lib.hid (show 0 ≤ f.d ∧ f.d < 18446744073709551616 by omega)
  have HNq := Lib.hid (show 0 ≤ f.q ∧ f.q < 18446744073709551616 by omega)
  have HNa := Lib.hid (show 0 ≤ f.a ∧ f.a < 18446744073709551616 by omega)
  have HNw := Lib.hid (show 0 ≤ f.wn ∧ f.wn < 18446744073709551616 by omega)
  have HNm := Lib.hid (show 0 ≤ f.m ∧ f.m < 18446744073709551616 by omega)
  have HNf := Lib.hid (show 0 ≤ f.fl ∧ f.fl < 256 by omega)
  have EWs := Lib.hid (show IntKind.u64.wrap f.s = f.s from IntWalk.u64_in _ (by omega))
  have EWd := Lib.hid (show IntKind.u64.wrap f.d = f.d from IntWalk.u64_in _ (by omega))
  have EWq := Lib.hid (show IntKind.u64.wrap f.q = f.q from IntWalk.u64_in _ (by omega))
  have EWa := Lib.hid (show IntKind.u64.wrap f.a = f.a from IntWalk.u64_in _ (by omega))
  have EWw := Lib.hid (show IntKind.u64.wrap f.wn = f.wn from IntWalk.u64_in _ (by omega))
  have EWm := Lib.hid (show IntKind.u64.wrap f.m = f.m from IntWalk.u64_in _ (by omega))
  have EWf := Lib.hid (show IntKind.u8.wrap f.fl = f.fl by rw [wrap_u8]; omega)
  have HSM := Lib.hid (show f.x.length ≤ 60000 by omega)
  have HSL := Lib.hid (show slN f = 20 + 0 + f.x.length by unfold slN; rw [eo]; simp [putB_len])
  have HRAW := Lib.hid (show putL f.s 2 true ++ putL f.d 2 true ++ putL f.q 4 true ++ putL f.a 4 true ++ [80, f.fl] ++ putL f.wn 2 true ++ [0, 0, 0, 0] ++ ([] : List Int) ++ f.x = rawSG f by unfold rawSG pre12; rw [eo]; simp [putB_len])
  have HXO := Lib.hid hb1.ok
  have HOK := Lib.hid hok
  have H1 := Lib.hid hb1
  clear hb1 hok hk hs0 hs1 hd0 hd1 hw0 hw1 hm0 hm1 hf0 hf1 hxl eo hq ha
  go_enter Try.func9, Try.ntmps9
  go_upto_region 1 with fail
  have hB : Blk (w.alloc (.cells #[.int .i64 f.s, .int .i64 f.d, .int .u32 f.q, .int .u32 f.a, .int .i64 f.fl, .int .i64 f.wn, .int .i64 f.m, .slice p1 f.x.length k1] 25)) w.heap.size #[.int .i64 f.s, .int .i64 f.d, .int .u32 f.q, .int .u32 f.a, .int .i64 f.fl, .int .i64 f.wn, .int .i64 f.m, .slice p1 f.x.length k1] 25 := Blk.new _ _ _ _ rfl
  have g0 : Grew w (w.alloc (.cells #[.int .i64 f.s, .int .i64 f.d, .int .u32 f.q, .int .u32 f.a, .int .i64 f.fl, .int .i64 f.wn, .int .i64 f.m, .slice p1 f.x.length k1] 25)) := (Grew.refl _).alloc _
  generalize (w.alloc (.cells #[.int .i64 f.s, .int .i64 f.d, .int .u32 f.q, .int .u32 f.a, .int .i64 f.fl, .int .i64 f.wn, .int .i64 f.m, .slice p1 f.x.length k1] 25)) = w0 at *
  generalize hlB : w.heap.size = B at *
  have HB0 := Lib.hid hB
  have y0 := hB.cell 0
  have y1 := hB.cell 1
  have y2 := hB.cell 2
  have y3 := hB.cell 3
  have y4 := hB.cell 4
  have y5 := hB.cell 5
  have y6 := hB.cell 6
  have y7 := hB.cell 7
  go_upto_region 4 with (first | (go_at_call 26; refine (refWord_c _ _ (by assumption) _).mono ?_; rintro e w2 ⟨rfl, h2⟩; obtain rfl := h2.symm))
  clear q0 q1 q2 q3 q4 q5 q6
  go_upto_region 6 with fail
  have HO := Lib.hid (Buf.nil w0)
  have g1 := Grew.refl w0
  have HB := Lib.hid (HB0.out.grew g1)
  have HX := Lib.hid (H1.out.grew (g0.trans g1))
  have G01 := g0.trans g1
  clear y0 y1 y2 y3 y4 y5 y6 y7 hB HB0 g1 g0 m0
  have hst := (Grew.refl w0).drew1
  refine wp_region_held_drew (S := fun w' => Grew w0 w') (by kernel_rfl) (by exact hst) (fun hHeld => ?_)
  replace hHeld : Grew w0 w0.drew := hHeld
  generalize w0.drew = wq1 at *
  refine wpAnyH_take (i := 0) (v := ?_) rfl (by kernel_rfl) (by kernel_rfl) (by kernel_rfl) (fun _ _ _ h => h) (Or.inl ⟨by rfl, ?_⟩) hHeld ?_
  rotate_left
  · intro wq hSw
    replace hSw : Grew w0 wq := hSw
    go_simp
    try with_reducible rfl
  try simp only [List.getElem_toArray, List.getElem_cons_succ, List.getElem_cons_zero, Act.put, List.setIfInBounds_toArray, List.set_cons_zero, List.set_cons_succ]
  refine wpAnyH_take (i := 1) (v := ?_) rfl (by kernel_rfl) (by kernel_rfl) (by kernel_rfl) (fun _ _ _ h => h) (Or.inl ⟨by rfl, ?_⟩) hHeld ?_
  rotate_left
  · intro wq hSw
    replace hSw : Grew w0 wq := hSw
    have y0 := (HB.out.grew hSw).cell 0
    go_simp
    try with_reducible rfl
  try simp only [List.getElem_toArray, List.getElem_cons_succ, List.getElem_cons_zero, Act.put, List.setIfInBounds_toArray, List.set_cons_zero, List.set_cons_succ]
  refine wpAnyH_take (i := 2) (v := ?_) rfl (by kernel_rfl) (by kernel_rfl) (by kernel_rfl) (fun _ _ _ h => h) (Or.inl ⟨by rfl, ?_⟩) hHeld ?_
  rotate_left
  · intro wq hSw
    replace hSw : Grew w0 wq := hSw
    have ew := EWs.out
    go_simp
    try with_reducible rfl
  try simp only [List.getElem_toArray, List.getElem_cons_succ, List.getElem_cons_zero, Act.put, List.setIfInBounds_toArray, List.set_cons_zero, List.set_cons_succ]
  refine wpAnyH_take (i := 4) (v := ?_) rfl (by kernel_rfl) (by kernel_rfl) (by kernel_rfl) (fun _ _ _ h => h) (Or.inl ⟨by rfl, ?_⟩) hHeld ?_
  rotate_left
  · intro wq hSw
    replace hSw : Grew w0 wq := hSw
    go_simp
    try with_reducible rfl
  try simp only [List.getElem_toArray, List.getElem_cons_succ, List.getElem_cons_zero, Act.put, List.setIfInBounds_toArray, List.set_cons_zero, List.set_cons_succ]
  refine wpAnyH_take (i := 5) (v := ?_) rfl (by kernel_rfl) (by kernel_rfl) (by kernel_rfl) (fun _ _ _ h => h) (Or.inl ⟨by rfl, ?_⟩) hHeld ?_
  rotate_left
  · intro wq hSw
    replace hSw : Grew w0 wq := hSw
    have y1 := (HB.out.grew hSw).cell 1
    go_simp
    try with_reducible rfl
  try simp only [List.getElem_toArray, List.getElem_cons_succ, List.getElem_cons_zero, Act.put, List.setIfInBounds_toArray, List.set_cons_zero, List.set_cons_succ]
  refine wpAnyH_take (i := 6) (v := ?_) rfl (by kernel_rfl) (by kernel_rfl) (by kernel_rfl) (fun _ _ _ h => h) (Or.inl ⟨by rfl, ?_⟩) hHeld ?_
  rotate_left
  · intro wq hSw
    replace hSw : Grew w0 wq := hSw
    have ew := EWd.out
    go_simp
    try with_reducible rfl
  try simp only [List.getElem_toArray, List.getElem_cons_succ, List.getElem_cons_zero, Act.put, List.setIfInBounds_toArray, List.set_cons_zero, List.set_cons_succ]
  refine wpAnyH_take (i := 9) (v := ?_) rfl (by kernel_rfl) (by kernel_rfl) (by kernel_rfl) (fun _ _ _ h => h) (Or.inl ⟨by rfl, ?_⟩) hHeld ?_
  rotate_left
  · intro wq hSw
    replace hSw : Grew w0 wq := hSw
    go_simp
    try with_reducible rfl
  try simp only [List.getElem_toArray, List.getElem_cons_succ, List.getElem_cons_zero, Act.put, List.setIfInBounds_toArray, List.set_cons_zero, List.set_cons_succ]
  refine wpAnyH_take (i := 10) (v := ?_) rfl (by kernel_rfl) (by kernel_rfl) (by kernel_rfl) (fun _ _ _ h => h) (Or.inl ⟨by rfl, ?_⟩) hHeld ?_
  rotate_left
  · intro wq hSw
    replace hSw : Grew w0 wq := hSw
    have y2 := (HB.out.grew hSw).cell 2
    go_simp
    try with_reducible rfl
  try simp only [List.getElem_toArray, List.getElem_cons_succ, List.getElem_cons_zero, Act.put, List.setIfInBounds_toArray, List.set_cons_zero, List.set_cons_succ]
  refine wpAnyH_take (i := 11) (v := ?_) rfl (by kernel_rfl) (by kernel_rfl) (by kernel_rfl) (fun _ _ _ h => h) (Or.inl ⟨by rfl, ?_⟩) hHeld ?_
  rotate_left
  · intro wq hSw
    replace hSw : Grew w0 wq := hSw
    have ew := EWq.out
    go_simp
    try with_reducible rfl
  try simp only [List.getElem_toArray, List.getElem_cons_succ, List.getElem_cons_zero, Act.put, List.setIfInBounds_toArray, List.set_cons_zero, List.set_cons_succ]
  refine wpAnyH_take (i := 14) (v := ?_) rfl (by kernel_rfl) (by kernel_rfl) (by kernel_rfl) (fun _ _ _ h => h) (Or.inl ⟨by rfl, ?_⟩) hHeld ?_
  rotate_left
  · intro wq hSw
    replace hSw : Grew w0 wq := hSw
    go_simp
    try with_reducible rfl
  try simp only [List.getElem_toArray, List.getElem_cons_succ, List.getElem_cons_zero, Act.put, List.setIfInBounds_toArray, List.set_cons_zero, List.set_cons_succ]
  refine wpAnyH_take (i := 15) (v := ?_) rfl (by kernel_rfl) (by kernel_rfl) (by kernel_rfl) (fun _ _ _ h => h) (Or.inl ⟨by rfl, ?_⟩) hHeld ?_
  rotate_left
  · intro wq hSw
    replace hSw : Grew w0 wq := hSw
    have y3 := (HB.out.grew hSw).cell 3
    go_simp
    try with_reducible rfl
  try simp only [List.getElem_toArray, List.getElem_cons_succ, List.getElem_cons_zero, Act.put, List.setIfInBounds_toArray, List.set_cons_zero, List.set_cons_succ]
  refine wpAnyH_take (i := 16) (v := ?_) rfl (by kernel_rfl) (by kernel_rfl) (by kernel_rfl) (fun _ _ _ h => h) (Or.inl ⟨by rfl, ?_⟩) hHeld ?_
  rotate_left
  · intro wq hSw
    replace hSw : Grew w0 wq := hSw
    have ew := EWa.out
    go_simp
    try with_reducible rfl
  try simp only [List.getElem_toArray, List.getElem_cons_succ, List.getElem_cons_zero, Act.put, List.setIfInBounds_toArray, List.set_cons_zero, List.set_cons_succ]
  refine wpAnyH_ready (rs := [3]) (by kernel_rfl) (by simp) ?_
  refine AllReadyH.cons rfl (fun K hK => ?_) AllReadyH.nil
  go_simp
  refine (refPut19s_c (f.s) _ 2 (by rfl) (by omega) (by have := HNs.out; omega) (by have := HNs.out; omega) wq1).mono ?_
  rintro e wk2 ⟨pa, ca, rfl, Ra, Ha, gk2⟩
  replace Ra := Lib.hid (Ra.low hHeld.size)
  clear Ha
  refine hK.out _ _ (hHeld.trans gk2) (fun hHeld => ?_)
  clear hK K
  try simp only [List.getElem_toArray, List.getElem_cons_succ, List.getElem_cons_zero, Act.put, List.setIfInBounds_toArray, List.set_cons_zero, List.set_cons_succ]
  refine wpAnyH_ready (rs := [7]) (by kernel_rfl) (by simp) ?_
  refine AllReadyH.cons rfl (fun K hK => ?_) AllReadyH.nil
  go_simp
  refine (refPut19s_c (f.d) _ 2 (by rfl) (by omega) (by have := HNd.out; omega) (by have := HNd.out; omega) wk2).mono ?_
  rintro e wk3 ⟨pb, cb, rfl, Rb, Hb, gk3⟩
  replace Hb := Lib.hid Hb
  clear Rb
  replace Ra := Lib.hid (Ra.out.grew gk3)
  refine hK.out _ _ (hHeld.trans gk3) (fun hHeld => ?_)
  clear hK K
  try simp only [List.getElem_toArray, List.getElem_cons_succ, List.getElem_cons_zero, Act.put, List.setIfInBounds_toArray, List.set_cons_zero, List.set_cons_succ]
  refine wpAnyH_ready (rs := [8]) (by kernel_rfl) (by simp) ?_
  refine AllReadyH.cons rfl (fun K hK => ?_) AllReadyH.nil
  refine step_append_off (by simp [Region.wanted]) (.tmp 61) (.tmp 65) rfl hHeld Ra.out (Hb.out) (by rfl) (by rfl) (by simp only [List.length_append, putB_len, pre12_len, List.length_cons, List.length_nil]; have := HSM.out; omega) ?_
  intro vR2 wk4 R2 gk4 KR2 gb
  clear gb
  clear KR2
  refine hK.out _ _ (gk4) (fun hHeld => ?_)
  clear hK K
  try simp only [List.getElem_toArray, List.getElem_cons_succ, List.getElem_cons_zero, Act.put, List.setIfInBounds_toArray, List.set_cons_zero, List.set_cons_succ]
  refine wpAnyH_ready (rs := [12]) (by kernel_rfl) (by simp) ?_
  refine AllReadyH.cons rfl (fun K hK => ?_) AllReadyH.nil
  go_simp
  refine (refPut19s_c (f.q) _ 4 (by rfl) (by omega) (by have := HNq.out; omega) (by have := HNq.out; omega) wk4).mono ?_
  rintro e wk5 ⟨pc, cc, rfl, Rc, Hc, gk5⟩
  replace Hc := Lib.hid Hc
  clear Rc
  replace R2 := Lib.hid (R2.out.grew gk5)
  refine hK.out _ _ (hHeld.trans gk5) (fun hHeld => ?_)
  clear hK K
  try simp only [List.getElem_toArray, List.getElem_cons_succ, List.getElem_cons_zero, Act.put, List.setIfInBounds_toArray, List.set_cons_zero, List.set_cons_succ]
  refine wpAnyH_ready (rs := [13]) (by kernel_rfl) (by simp) ?_
  refine AllReadyH.cons rfl (fun K hK => ?_) AllReadyH.nil
  refine step_append_off (by simp [Region.wanted]) (.tmp 66) (.tmp 70) rfl hHeld R2.out (Hc.out) (by rfl) (by rfl) (by simp only [List.length_append, putB_len, pre12_len, List.length_cons, List.length_nil]; have := HSM.out; omega) ?_
  intro vR3 wk6 R3 gk6 KR3 gb
  clear gb
  clear KR3
  refine hK.out _ _ (gk6) (fun hHeld => ?_)
  clear hK K
  try simp only [List.getElem_toArray, List.getElem_cons_succ, List.getElem_cons_zero, Act.put, List.setIfInBounds_toArray, List.set_cons_zero, List.set_cons_succ]
  refine wpAnyH_ready (rs := [17]) (by kernel_rfl) (by simp) ?_
  refine AllReadyH.cons rfl (fun K hK => ?_) AllReadyH.nil
  go_simp
  refine (refPut19s_c (f.a) _ 4 (by rfl) (by omega) (by have := HNa.out; omega) (by have := HNa.out; omega) wk6).mono ?_
  rintro e wk7 ⟨pe, ce, rfl, Re, He, gk7⟩
  replace He := Lib.hid He
  clear Re
  replace R3 := Lib.hid (R3.out.grew gk7)
  refine hK.out _ _ (hHeld.trans gk7) (fun hHeld => ?_)
  clear hK K
  try simp only [List.getElem_toArray, List.getElem_cons_succ, List.getElem_cons_zero, Act.put, List.setIfInBounds_toArray, List.set_cons_zero, List.set_cons_succ]
  refine wpAnyH_ready (rs := [18]) (by kernel_rfl) (by simp) ?_
  refine AllReadyH.cons rfl (fun K hK => ?_) AllReadyH.nil
  refine step_append_off (by simp [Region.wanted]) (.tmp 71) (.tmp 75) rfl hHeld R3.out (He.out) (by rfl) (by rfl) (by simp only [List.length_append, putB_len, pre12_len, List.length_cons, List.length_nil]; have := HSM.out; omega) ?_
  intro vR4 wk8 R4 gk8 KR4 gb
  clear gb
  clear KR4
  refine hK.out _ _ (gk8) (fun hHeld => ?_)
  clear hK K
  try simp only [List.getElem_toArray, List.getElem_cons_succ, List.getElem_cons_zero, Act.put, List.setIfInBounds_toArray, List.set_cons_zero, List.set_cons_succ]
  refine wpAnyH_take (i := 19) (v := ?_) rfl (by kernel_rfl) (by kernel_rfl) (by kernel_rfl) (fun _ _ _ h => h) (Or.inl ⟨by rfl, ?_⟩) hHeld ?_
  rotate_left
  · intro wq hSw
    replace hSw : Grew w0 wq := hSw
    go_simp
    try with_reducible rfl
  try simp only [List.getElem_toArray, List.getElem_cons_succ, List.getElem_cons_zero, Act.put, List.setIfInBounds_toArray, List.set_cons_zero, List.set_cons_succ]
  refine wpAnyH_done (by kernel_rfl) ?_ _
  try simp only [List.getElem_toArray, List.getElem_cons_succ, List.getElem_cons_zero, Act.put, List.setIfInBounds_toArray, List.set_cons_zero, List.set_cons_succ]
  have HG6 := Lib.hid hHeld
  clear hHeld
  go_upto_region 7 with fail
  replace R4 := Lib.hid (R4.out.grew ((Grew.refl wk8).drew1))
  have hst := HG6.out.drew1
  refine wp_region_held_drew (S := fun w' => Grew w0 w') (by kernel_rfl) (by exact hst) (fun hHeld => ?_)
  replace hHeld : Grew w0 wk8.drew := hHeld
  generalize wk8.drew = wq9 at *
  refine wpAnyH_take (i := 0) (v := ?_) rfl (by kernel_rfl) (by kernel_rfl) (by kernel_rfl) (fun _ _ _ h => h) (Or.inl ⟨by rfl, ?_⟩) hHeld ?_
  rotate_left
  · intro wq hSw
    replace hSw : Grew w0 wq := hSw
    go_simp
    try with_reducible rfl
  try simp only [List.getElem_toArray, List.getElem_cons_succ, List.getElem_cons_zero, Act.put, List.setIfInBounds_toArray, List.set_cons_zero, List.set_cons_succ]
  refine wpAnyH_take (i := 1) (v := ?_) rfl (by kernel_rfl) (by kernel_rfl) (by kernel_rfl) (fun _ _ _ h => h) (Or.inl ⟨by rfl, ?_⟩) hHeld ?_
  rotate_left
  · intro wq hSw
    replace hSw : Grew w0 wq := hSw
    go_simp
    try with_reducible rfl
  try simp only [List.getElem_toArray, List.getElem_cons_succ, List.getElem_cons_zero, Act.put, List.setIfInBounds_toArray, List.set_cons_zero, List.set_cons_succ]
  refine wpAnyH_take (i := 2) (v := ?_) rfl (by kernel_rfl) (by kernel_rfl) (by kernel_rfl) (fun _ _ _ h => h) (Or.inl ⟨by rfl, ?_⟩) hHeld ?_
  rotate_left
  · intro wq hSw
    replace hSw : Grew w0 wq := hSw
    go_simp
    try with_reducible rfl
  try simp only [List.getElem_toArray, List.getElem_cons_succ, List.getElem_cons_zero, Act.put, List.setIfInBounds_toArray, List.set_cons_zero, List.set_cons_succ]
  refine wpAnyH_take (i := 3) (v := ?_) rfl (by kernel_rfl) (by kernel_rfl) (by kernel_rfl) (fun _ _ _ h => h) (Or.inl ⟨by rfl, ?_⟩) hHeld ?_
  rotate_left
  · intro wq hSw
    replace hSw : Grew w0 wq := hSw
    have e1 : IntKind.i64.wrap 0 = 0 := by decide
    have e2 : IntKind.i64.wrap 80 = 80 := by decide
    have e3 : IntKind.u8.wrap 80 = 80 := by decide
    go_simp
    try with_reducible rfl
  try simp only [List.getElem_toArray, List.getElem_cons_succ, List.getElem_cons_zero, Act.put, List.setIfInBounds_toArray, List.set_cons_zero, List.set_cons_succ]
  refine wpAnyH_take (i := 4) (v := ?_) rfl (by kernel_rfl) (by kernel_rfl) (by kernel_rfl) (fun _ _ _ h => h) (Or.inl ⟨by rfl, ?_⟩) hHeld ?_
  rotate_left
  · intro wq hSw
    replace hSw : Grew w0 wq := hSw
    have e1 : IntKind.i64.wrap 0 = 0 := by decide
    have e2 : IntKind.i64.wrap 80 = 80 := by decide
    have e3 : IntKind.u8.wrap 80 = 80 := by decide
    go_simp
    try with_reducible rfl
  try simp only [List.getElem_toArray, List.getElem_cons_succ, List.getElem_cons_zero, Act.put, List.setIfInBounds_toArray, List.set_cons_zero, List.set_cons_succ]
  refine wpAnyH_take (i := 5) (v := ?_) rfl (by kernel_rfl) (by kernel_rfl) (by kernel_rfl) (fun _ _ _ h => h) (Or.inl ⟨by rfl, ?_⟩) hHeld ?_
  rotate_left
  · intro wq hSw
    replace hSw : Grew w0 wq := hSw
    have e1 : IntKind.i64.wrap 0 = 0 := by decide
    have e2 : IntKind.i64.wrap 80 = 80 := by decide
    have e3 : IntKind.u8.wrap 80 = 80 := by decide
    go_simp
    try with_reducible rfl
  try simp only [List.getElem_toArray, List.getElem_cons_succ, List.getElem_cons_zero, Act.put, List.setIfInBounds_toArray, List.set_cons_zero, List.set_cons_succ]
  refine wpAnyH_take (i := 6) (v := ?_) rfl (by kernel_rfl) (by kernel_rfl) (by kernel_rfl) (fun _ _ _ h => h) (Or.inl ⟨by rfl, ?_⟩) hHeld ?_
  rotate_left
  · intro wq hSw
    replace hSw : Grew w0 wq := hSw
    go_simp
    try with_reducible rfl
  try simp only [List.getElem_toArray, List.getElem_cons_succ, List.getElem_cons_zero, Act.put, List.setIfInBounds_toArray, List.set_cons_zero, List.set_cons_succ]
  refine wpAnyH_take (i := 7) (v := ?_) rfl (by kernel_rfl) (by kernel_rfl) (by kernel_rfl) (fun _ _ _ h => h) (Or.inl ⟨by rfl, ?_⟩) hHeld ?_
  rotate_left
  · intro wq hSw
    replace hSw : Grew w0 wq := hSw
    have y4 := (HB.out.grew hSw).cell 4
    go_simp
    try with_reducible rfl
  try simp only [List.getElem_toArray, List.getElem_cons_succ, List.getElem_cons_zero, Act.put, List.setIfInBounds_toArray, List.set_cons_zero, List.set_cons_succ]
  refine wpAnyH_take (i := 8) (v := ?_) rfl (by kernel_rfl) (by kernel_rfl) (by kernel_rfl) (fun _ _ _ h => h) (Or.inl ⟨by rfl, ?_⟩) hHeld ?_
  rotate_left
  · intro wq hSw
    replace hSw : Grew w0 wq := hSw
    have ew := EWf.out
    go_simp
    try with_reducible rfl
  try simp only [List.getElem_toArray, List.getElem_cons_succ, List.getElem_cons_zero, Act.put, List.setIfInBounds_toArray, List.set_cons_zero, List.set_cons_succ]
  refine wpAnyH_take (i := 11) (v := ?_) rfl (by kernel_rfl) (by kernel_rfl) (by kernel_rfl) (fun _ _ _ h => h) (Or.inl ⟨by rfl, ?_⟩) hHeld ?_
  rotate_left
  · intro wq hSw
    replace hSw : Grew w0 wq := hSw
    go_simp
    try with_reducible rfl
  try simp only [List.getElem_toArray, List.getElem_cons_succ, List.getElem_cons_zero, Act.put, List.setIfInBounds_toArray, List.set_cons_zero, List.set_cons_succ]
  refine wpAnyH_take (i := 12) (v := ?_) rfl (by kernel_rfl) (by kernel_rfl) (by kernel_rfl) (fun _ _ _ h => h) (Or.inl ⟨by rfl, ?_⟩) hHeld ?_
  rotate_left
  · intro wq hSw
    replace hSw : Grew w0 wq := hSw
    have y5 := (HB.out.grew hSw).cell 5
    go_simp
    try with_reducible rfl
  try simp only [List.getElem_toArray, List.getElem_cons_succ, List.getElem_cons_zero, Act.put, List.setIfInBounds_toArray, List.set_cons_zero, List.set_cons_succ]
  refine wpAnyH_take (i := 13) (v := ?_) rfl (by kernel_rfl) (by kernel_rfl) (by kernel_rfl) (fun _ _ _ h => h) (Or.inl ⟨by rfl, ?_⟩) hHeld ?_
  rotate_left
  · intro wq hSw
    replace hSw : Grew w0 wq := hSw
    have ew := EWw.out
    go_simp
    try with_reducible rfl
  try simp only [List.getElem_toArray, List.getElem_cons_succ, List.getElem_cons_zero, Act.put, List.setIfInBounds_toArray, List.set_cons_zero, List.set_cons_succ]
  refine wpAnyH_ready (rs := [9]) (by kernel_rfl) (by simp) ?_
  refine AllReadyH.cons rfl (fun K hK => ?_) AllReadyH.nil
  go_simp
  have H0 : Hid (Buf (wq9.alloc (.cells #[.int .u8 80, .int .u8 f.fl] 5)) (.slice (some ⟨wq9.heap.size, 0, none⟩) 2 2) [80, f.fl]) := Lib.hid ((Row.lit wq9 wq9.heap.size (Nat.le_refl _) #[.int .u8 80, .int .u8 f.fl] [80, f.fl] rfl (by unfold maxLen; simp) _ rfl 2 rfl).buf (two_ok _ _ (by omega) (by have := HNf.out; omega)))
  have gk10 : Grew wq9 (wq9.alloc (.cells #[.int .u8 80, .int .u8 f.fl] 5)) := (Grew.refl _).alloc _
  have HO0 : Hid (([80, f.fl] : List Int) ≠ [] → Off vR4.ownBlock (.slice (some ⟨wq9.heap.size, 0, none⟩) 2 2)) := Lib.hid (fun _ q hq hk => by have h1 := R4.out.lt q hq; simp only [Value.ownBlock, Option.some.injEq] at hk; omega)
  replace R4 := Lib.hid (R4.out.grew gk10)
  generalize (wq9.alloc (.cells #[.int .u8 80, .int .u8 f.fl] 5)) = wk10 at *
  generalize wq9.heap.size = L0 at *
  refine hK.out _ _ (hHeld.trans gk10) (fun hHeld => ?_)
  clear hK K
  try simp only [List.getElem_toArray, List.getElem_cons_succ, List.getElem_cons_zero, Act.put, List.setIfInBounds_toArray, List.set_cons_zero, List.set_cons_succ]
  refine wpAnyH_ready (rs := [10]) (by kernel_rfl) (by simp) ?_
  refine AllReadyH.cons rfl (fun K hK => ?_) AllReadyH.nil
  refine step_append_off (by simp [Region.wanted]) (.tmp 77) (.tmp 86) rfl hHeld R4.out (H0.out) (by rfl) (by rfl) (by simp only [List.length_append, putB_len, pre12_len, List.length_cons, List.length_nil]; have := HSM.out; omega) ?_
  intro vR5 wk11 R5 gk11 KR5 gb
  clear gb
  clear H0 HO0
  clear KR5
  refine hK.out _ _ (gk11) (fun hHeld => ?_)
  clear hK K
  try simp only [List.getElem_toArray, List.getElem_cons_succ, List.getElem_cons_zero, Act.put, List.setIfInBounds_toArray, List.set_cons_zero, List.set_cons_succ]
  refine wpAnyH_ready (rs := [14]) (by kernel_rfl) (by simp) ?_
  refine AllReadyH.cons rfl (fun K hK => ?_) AllReadyH.nil
  go_simp
  refine (refPut19s_c (f.wn) _ 2 (by rfl) (by omega) (by have := HNw.out; omega) (by have := HNw.out; omega) wk11).mono ?_
  rintro e wk12 ⟨pg, cg, rfl, Rg, Hg, gk12⟩
  replace Hg := Lib.hid Hg
  clear Rg
  replace R5 := Lib.hid (R5.out.grew gk12)
  refine hK.out _ _ (hHeld.trans gk12) (fun hHeld => ?_)
  clear hK K
  try simp only [List.getElem_toArray, List.getElem_cons_succ, List.getElem_cons_zero, Act.put, List.setIfInBounds_toArray, List.set_cons_zero, List.set_cons_succ]
  refine wpAnyH_ready (rs := [15]) (by kernel_rfl) (by simp) ?_
  refine AllReadyH.cons rfl (fun K hK => ?_) AllReadyH.nil
  refine step_append_off (by simp [Region.wanted]) (.tmp 87) (.tmp 91) rfl hHeld R5.out (Hg.out) (by rfl) (by rfl) (by simp only [List.length_append, putB_len, pre12_len, List.length_cons, List.length_nil]; have := HSM.out; omega) ?_
  intro vR6 wk13 R6 gk13 KR6 gb
  clear gb
  clear KR6
  refine hK.out _ _ (gk13) (fun hHeld => ?_)
  clear hK K
  try simp only [List.getElem_toArray, List.getElem_cons_succ, List.getElem_cons_zero, Act.put, List.setIfInBounds_toArray, List.set_cons_zero, List.set_cons_succ]
  refine wpAnyH_take (i := 16) (v := ?_) rfl (by kernel_rfl) (by kernel_rfl) (by kernel_rfl) (fun _ _ _ h => h) (Or.inl ⟨by rfl, ?_⟩) hHeld ?_
  rotate_left
  · intro wq hSw
    replace hSw : Grew w0 wq := hSw
    go_simp
    try with_reducible rfl
  try simp only [List.getElem_toArray, List.getElem_cons_succ, List.getElem_cons_zero, Act.put, List.setIfInBounds_toArray, List.set_cons_zero, List.set_cons_succ]
  refine wpAnyH_done (by kernel_rfl) ?_ _
  try simp only [List.getElem_toArray, List.getElem_cons_succ, List.getElem_cons_zero, Act.put, List.setIfInBounds_toArray, List.set_cons_zero, List.set_cons_succ]
  have HG7 := Lib.hid hHeld
  clear hHeld
  go_upto_region 8 with fail
  replace R6 := Lib.hid (R6.out.grew ((Grew.refl wk13).drew1))
  have hst := HG7.out.drew1
  refine wp_region_held_drew (S := fun w' => Grew w0 w') (by kernel_rfl) (by exact hst) (fun hHeld => ?_)
  replace hHeld : Grew w0 wk13.drew := hHeld
  generalize wk13.drew = wq14 at *
  refine wpAnyH_take (i := 0) (v := ?_) rfl (by kernel_rfl) (by kernel_rfl) (by kernel_rfl) (fun _ _ _ h => h) (Or.inl ⟨by rfl, ?_⟩) hHeld ?_
  rotate_left
  · intro wq hSw
    replace hSw : Grew w0 wq := hSw
    go_simp
    try with_reducible rfl
  try simp only [List.getElem_toArray, List.getElem_cons_succ, List.getElem_cons_zero, Act.put, List.setIfInBounds_toArray, List.set_cons_zero, List.set_cons_succ]
  refine wpAnyH_take (i := 3) (v := ?_) rfl (by kernel_rfl) (by kernel_rfl) (by kernel_rfl) (fun _ _ _ h => h) (Or.inl ⟨by rfl, ?_⟩) hHeld ?_
  rotate_left
  · intro wq hSw
    replace hSw : Grew w0 wq := hSw
    go_simp
    try with_reducible rfl
  try simp only [List.getElem_toArray, List.getElem_cons_succ, List.getElem_cons_zero, Act.put, List.setIfInBounds_toArray, List.set_cons_zero, List.set_cons_succ]
  refine wpAnyH_take (i := 5) (v := ?_) rfl (by kernel_rfl) (by kernel_rfl) (by kernel_rfl) (fun _ _ _ h => h) (Or.inl ⟨by rfl, ?_⟩) hHeld ?_
  rotate_left
  · intro wq hSw
    replace hSw : Grew w0 wq := hSw
    go_simp
    try with_reducible rfl
  try simp only [List.getElem_toArray, List.getElem_cons_succ, List.getElem_cons_zero, Act.put, List.setIfInBounds_toArray, List.set_cons_zero, List.set_cons_succ]
  refine wpAnyH_take (i := 6) (v := ?_) rfl (by kernel_rfl) (by kernel_rfl) (by kernel_rfl) (fun _ _ _ h => h) (Or.inl ⟨by rfl, ?_⟩) hHeld ?_
  rotate_left
  · intro wq hSw
    replace hSw : Grew w0 wq := hSw
    have y7 := (HB.out.grew hSw).cell 7
    go_simp
    try with_reducible rfl
  try simp only [List.getElem_toArray, List.getElem_cons_succ, List.getElem_cons_zero, Act.put, List.setIfInBounds_toArray, List.set_cons_zero, List.set_cons_succ]
  refine wpAnyH_ready (rs := [1]) (by kernel_rfl) (by simp) ?_
  refine AllReadyH.cons rfl (fun K hK => ?_) AllReadyH.nil
  go_simp
  have H0 : Hid (Buf (wq14.alloc (.cells #[.int .u8 0, .int .u8 0, .int .u8 0, .int .u8 0] 5)) (.slice (some ⟨wq14.heap.size, 0, none⟩) 4 4) [0, 0, 0, 0]) := Lib.hid ((Row.lit wq14 wq14.heap.size (Nat.le_refl _) #[.int .u8 0, .int .u8 0, .int .u8 0, .int .u8 0] [0, 0, 0, 0] rfl (by unfold maxLen; simp) _ rfl 4 rfl).buf zeros4_ok)
  have gk15 : Grew wq14 (wq14.alloc (.cells #[.int .u8 0, .int .u8 0, .int .u8 0, .int .u8 0] 5)) := (Grew.refl _).alloc _
  have HO0 : Hid (([0, 0, 0, 0] : List Int) ≠ [] → Off vR6.ownBlock (.slice (some ⟨wq14.heap.size, 0, none⟩) 4 4)) := Lib.hid (fun _ q hq hk => by have h1 := R6.out.lt q hq; simp only [Value.ownBlock, Option.some.injEq] at hk; omega)
  replace R6 := Lib.hid (R6.out.grew gk15)
  generalize (wq14.alloc (.cells #[.int .u8 0, .int .u8 0, .int .u8 0, .int .u8 0] 5)) = wk15 at *
  generalize wq14.heap.size = L0 at *
  refine hK.out _ _ (hHeld.trans gk15) (fun hHeld => ?_)
  clear hK K
  try simp only [List.getElem_toArray, List.getElem_cons_succ, List.getElem_cons_zero, Act.put, List.setIfInBounds_toArray, List.set_cons_zero, List.set_cons_succ]
  refine wpAnyH_ready (rs := [2]) (by kernel_rfl) (by simp) ?_
  refine AllReadyH.cons rfl (fun K hK => ?_) AllReadyH.nil
  refine step_append_off (by simp [Region.wanted]) (.tmp 93) (.tmp 94) rfl hHeld R6.out (H0.out) (by rfl) (by rfl) (by simp only [List.length_append, putB_len, pre12_len, List.length_cons, List.length_nil]; have := HSM.out; omega) ?_
  intro vR7 wk16 R7 gk16 KR7 gb
  clear gb
  clear H0 HO0
  clear KR7
  refine hK.out _ _ (gk16) (fun hHeld => ?_)
  clear hK K
  try simp only [List.getElem_toArray, List.getElem_cons_succ, List.getElem_cons_zero, Act.put, List.setIfInBounds_toArray, List.set_cons_zero, List.set_cons_succ]
  refine wpAnyH_ready (rs := [4]) (by kernel_rfl) (by simp) ?_
  refine AllReadyH.cons rfl (fun K hK => ?_) AllReadyH.nil
  refine step_append_off (by simp [Region.wanted]) (.tmp 95) (.tmp 96) rfl hHeld R7.out (HO.out.grew hHeld) (by rfl) (by rfl) (by simp only [List.length_append, putB_len, pre12_len, List.length_cons, List.length_nil]; have := HSM.out; omega) ?_
  intro vR8 wk17 R8 gk17 KR8 gb
  clear gb
  clear KR8
  refine hK.out _ _ (gk17) (fun hHeld => ?_)
  clear hK K
  try simp only [List.getElem_toArray, List.getElem_cons_succ, List.getElem_cons_zero, Act.put, List.setIfInBounds_toArray, List.set_cons_zero, List.set_cons_succ]
  refine wpAnyH_ready (rs := [7]) (by kernel_rfl) (by simp) ?_
  refine AllReadyH.cons rfl (fun K hK => ?_) AllReadyH.nil
  refine step_append_off (by simp [Region.wanted]) (.tmp 97) (.tmp 99) rfl hHeld R8.out (HX.out.grew hHeld) (by rfl) (by rfl) (by simp only [List.length_append, putB_len, pre12_len, List.length_cons, List.length_nil]; have := HSM.out; omega) ?_
  intro vR9 wk18 R9 gk18 KR9 gb
  clear gb
  clear KR9
  refine hK.out _ _ (gk18) (fun hHeld => ?_)
  clear hK K
  try simp only [List.getElem_toArray, List.getElem_cons_succ, List.getElem_cons_zero, Act.put, List.setIfInBounds_toArray, List.set_cons_zero, List.set_cons_succ]
  refine wpAnyH_take (i := 8) (v := ?_) rfl (by kernel_rfl) (by kernel_rfl) (by kernel_rfl) (fun _ _ _ h => h) (Or.inl ⟨by rfl, ?_⟩) hHeld ?_
  rotate_left
  · intro wq hSw
    replace hSw : Grew w0 wq := hSw
    go_simp
    try with_reducible rfl
  try simp only [List.getElem_toArray, List.getElem_cons_succ, List.getElem_cons_zero, Act.put, List.setIfInBounds_toArray, List.set_cons_zero, List.set_cons_succ]
  refine wpAnyH_done (by kernel_rfl) ?_ _
  try simp only [List.getElem_toArray, List.getElem_cons_succ, List.getElem_cons_zero, Act.put, List.setIfInBounds_toArray, List.set_cons_zero, List.set_cons_succ]
  have HG8 := Lib.hid hHeld
  clear hHeld
  have HR := R9.out
  rw [HRAW.out] at HR
  replace HR := Lib.hid HR
  clear R9
  have HBR := Lib.hid (HR.out.buf (rawSG_ok HOK.out HXO.out))
  generalize wk18 = wc at *
  generalize vR9 = u9 at *
  obtain ⟨g, c, rfl, hgl⟩ : ∃ g c, u9 = .slice (some ⟨g, 0, none⟩) (slN f) c ∧ g < wc.heap.size := by
    rcases HR.out.2 with ⟨_, h2⟩ | ⟨g, cap, cur, h1, _, h3, _⟩
    · rw [rawSG_len] at h2; have := HSL.out; omega
    · exact ⟨g, cap, by rw [h1, rawSG_len], lt_of_block h3⟩
  have HUL := Lib.hid (show 20 ≤ slN f ∧ slN f ≤ 60024 by have h1 := HSL.out; have h2 := HSM.out; omega)
  go_wp2_with fail
  refine (refPseudo_c src dst 6 (slN f : Nat) hs hd (by omega) (by have := HUL.out; omega) wc).mono ?_
  rintro e wp ⟨u1, rfl, r1, b1, gp⟩
  have HP := Lib.hid r1
  have HB1 := Lib.hid (HBR.out.grew gp)
  have HR1 := Lib.hid (HR.out.grew gp)
  have hpo : ∀ k, u1.ownBlock = some k → wc.heap.size ≤ k := fun k hk => r1.ge k hk
  clear r1 b1
  go_upto_region 10 with (first
    | (refine wpList_append_b (W := wc) rfl (.tmp 105) (.tmp 106) rfl gp HP.out HB1.out (by rfl) (by rfl) (by rw [pseudoV_len, rawSG_len]; have := HUL.out; omega) ?_; intro vz wz RZ gz xz; have HR2 : Hid (Row wz w0.heap.size (.slice (some ⟨g, 0, none⟩) (slN f) c) (rawSG f)) := Lib.hid (World.ownsRow.kept HR1.out xz (Or.inr (fun e => by have := hpo g e.symm; omega))); clear xz)
    | (go_at_call 28; refine (refSum_c _ (RZ.out.buf ((psSG_ok src dst (slN f)).append (rawSG_ok HOK.out HXO.out))) (by rw [List.length_append, pseudoV_len, rawSG_len]; have := HUL.out; omega)).mono ?_; rintro e w3 ⟨rfl, g3⟩))
  have hr3 : Row w3 w0.heap.size (.slice (some ⟨g, 0, none⟩) (slN f) c) (rawSG f) := HR2.out.grew g3
  have G3 := HG8.out.trans (gz.trans g3)
  have hge : w0.heap.size ≤ g := hr3.size.2.1
  have y6 := hr3.cellAt 16 (by rw [rawSG_len]; have := HUL.out; omega)
  have y7 := hr3.cellAt 17 (by rw [rawSG_len]; have := HUL.out; omega)
  have f6 := hr3.freeAt 16
  have f7 := hr3.freeAt 17
  have k6 : (16 : Int) < (slN f : Nat) := by have := HUL.out; omega
  have k7 : (17 : Int) < (slN f : Nat) := by have := HUL.out; omega
  have hc := ckSG_lt f src dst
  have HCK : Hid (ckSG f src dst = sumV (pseudoV src dst 6 ((slN f : Nat) : Int) ++ rawSG f)) := Lib.hid rfl
  rw [HCK.out] at hc
  generalize sumV (pseudoV src dst 6 ((slN f : Nat) : Int) ++ rawSG f) = S at *
  clear HP HB1 HR1 hpo RZ HR2 HBR HR gp gz g3 HG6 HG7 HG8
  obtain ⟨M, rfl⟩ : ∃ M : Nat, S = (M : Int) := ⟨S.toNat, by omega⟩
  have HPU : Hid (putTwo (rawSG f) 16 ((M : Int) / 256) ((M : Int) % 256) = putSG f src dst) := Lib.hid (by unfold putSG; rw [HCK.out])
  have ew1 : IntKind.i64.wrap ((M : Int) / 256) = (M : Int) / 256 := IntWalk.i64_in _ (by omega)
  have ew2 : IntKind.u8.wrap ((M : Int) / 256) = (M : Int) / 256 := by rw [wrap_u8]; omega
  have ew3 : IntKind.u8.wrap ((M : Int) % 256) = (M : Int) % 256 := by rw [wrap_u8]; omega
  clear hc HCK
  go_upto_region 11 with fail
  have hr4 := (hr3.setCell 16 ((M : Int) / 256)).setCell 17 ((M : Int) % 256)
  have g4 := (G3.setCell (b := g) (o := 16) hge (.int .u8 ((M : Int) / 256))).setCell (b := g) (o := 17) hge (.int .u8 ((M : Int) % 256))
  rw [set_two _ 16 _ _ (by rw [rawSG_len]; have := HUL.out; omega)] at hr4
  have HR4 : Hid (Buf ((w3.setCell ⟨g, 16, none⟩ (.int .u8 ((M : Int) / 256))).setCell ⟨g, 17, none⟩ (.int .u8 ((M : Int) % 256))) (.slice (some ⟨g, 0, none⟩) (slN f) c) (putSG f src dst)) := Lib.hid (by rw [HPU.out] at hr4; exact hr4.buf (putSG_ok HOK.out HXO.out src dst))
  clear hr4 y6 f6 y7 f7 hr3
  go_wp2_with fail
  go_ret2
  exact ⟨_, rfl, HR4.out, G01.trans g4⟩
set_option maxHeartbeats 8000000 in
theorem refPutS_yes1 {f : SGR} {p1 : Option Addr} {k1 : Nat} (src dst : Int) (hs : 0 ≤ src ∧ src < 4294967296) (hd : 0 ≤ dst ∧ dst < 4294967296) (hok : okSG f = true) (hm : ¬ f.m = 0) {w : World} (hq : 0 ≤ f.q ∧ f.q < 4294967296) (ha : 0 ≤ f.a ∧ f.a < 4294967296) (hb1 : Buf w (.slice p1 f.x.length k1) f.x) :
    Calls Try.prog 9 #[.agg #[.int .i64 f.s, .int .i64 f.d, .int .u32 f.q, .int .u32 f.a, .int .i64 f.fl, .int .i64 f.wn, .int .i64 f.m, .slice p1 f.x.length k1], .int .u32 src, .int .u32 dst] w fun e w' => ∃ u, e = .returned (.tuple #[u, .int .i64 0]) ∧ Buf w' u (putSG f src dst) ∧ Grew w w' := by
  have hk := okSG_spec hok
  have hkk := hk
  obtain ⟨⟨hs0, hs1⟩, ⟨hd0, hd1⟩, ⟨hw0, hw1⟩, ⟨hm0, hm1⟩, ⟨hf0, hf1⟩, hxl⟩ := hkk
  have q0 : wordV f.s = true := by unfold wordV; exact decide_eq_true (by omega)
  have q1 : wordV f.d = true := by unfold wordV; exact decide_eq_true (by omega)
  have q2 : wordV f.wn = true := by unfold wordV; exact decide_eq_true (by omega)
  have q3 : wordV f.m = true := by unfold wordV; exact decide_eq_true (by omega)
  have q4 : ¬ (f.fl < 0) := by omega
  have q5 : ¬ (63 < f.fl) := by omega
  have q6 : ¬ ((60000 : Int) < (f.x.length : Nat)) := by omega
  have eo : opSG f = [2, 4] ++ putL f.m 2 true := by unfold opSG; rw [if_neg hm]
  have m0 : (f.m != 0) = true := by simpa using hm
  clear hm
  have HNs := Lib.hid (show 0 ≤ f.s ∧ f.s < 18446744073709551616 by omega)
  have HNd := Lib.hid (show 0 ≤ f.d ∧ f.d < 18446744073709551616 by omega)
  have HNq := Lib.hid (show 0 ≤ f.q ∧ f.q < 18446744073709551616 by omega)
  have HNa := Lib.hid (show 0 ≤ f.a ∧ f.a < 18446744073709551616 by omega)
  have HNw := Lib.hid (show 0 ≤ f.wn ∧ f.wn < 18446744073709551616 by omega)
  have HNm := Lib.hid (show 0 ≤ f.m ∧ f.m < 18446744073709551616 by omega)
  have HNf := Lib.hid (show 0 ≤ f.fl ∧ f.fl < 256 by omega)
  have EWs := Lib.hid (show IntKind.u64.wrap f.s = f.s from IntWalk.u64_in _ (by omega))
  have EWd := Lib.hid (show IntKind.u64.wrap f.d = f.d from IntWalk.u64_in _ (by omega))
  have EWq := Lib.hid (show IntKind.u64.wrap f.q = f.q from IntWalk.u64_in _ (by omega))
  have EWa := Lib.hid (show IntKind.u64.wrap f.a = f.a from IntWalk.u64_in _ (by omega))
  have EWw := Lib.hid (show IntKind.u64.wrap f.wn = f.wn from IntWalk.u64_in _ (by omega))
  have EWm := Lib.hid (show IntKind.u64.wrap f.m = f.m from IntWalk.u64_in _ (by omega))
  have EWf := Lib.hid (show IntKind.u8.wrap f.fl = f.fl by rw [wrap_u8]; omega)
  have HSM := Lib.hid (show f.x.length ≤ 60000 by omega)
  have HSL := Lib.hid (show slN f = 20 + 4 + f.x.length by unfold slN; rw [eo]; simp [putB_len])
  have HRAW := Lib.hid (show putL f.s 2 true ++ putL f.d 2 true ++ putL f.q 4 true ++ putL f.a 4 true ++ [96, f.fl] ++ putL f.wn 2 true ++ [0, 0, 0, 0] ++ ([2, 4] ++ putL f.m 2 true) ++ f.x = rawSG f by unfold rawSG pre12; rw [eo]; simp [putB_len])
  have HXO := Lib.hid hb1.ok
  have HOK := Lib.hid hok
  have H1 := Lib.hid hb1
  clear hb1 hok hk hs0 hs1 hd0 hd1 hw0 hw1 hm0 hm1 hf0 hf1 hxl eo hq ha
  go_enter Try.func9, Try.ntmps9
  go_upto_region 1 with fail
  have hB : Blk (w.alloc (.cells #[.int .i64 f.s, .int .i64 f.d, .int .u32 f.q, .int .u32 f.a, .int .i64 f.fl, .int .i64 f.wn, .int .i64 f.m, .slice p1 f.x.length k1] 25)) w.heap.size #[.int .i64 f.s, .int .i64 f.d, .int .u32 f.q, .int .u32 f.a, .int .i64 f.fl, .int .i64 f.wn, .int .i64 f.m, .slice p1 f.x.length k1] 25 := Blk.new _ _ _ _ rfl
  have g0 : Grew w (w.alloc (.cells #[.int .i64 f.s, .int .i64 f.d, .int .u32 f.q, .int .u32 f.a, .int .i64 f.fl, .int .i64 f.wn, .int .i64 f.m, .slice p1 f.x.length k1] 25)) := (Grew.refl _).alloc _
  generalize (w.alloc (.cells #[.int .i64 f.s, .int .i64 f.d, .int .u32 f.q, .int .u32 f.a, .int .i64 f.fl, .int .i64 f.wn, .int .i64 f.m, .slice p1 f.x.length k1] 25)) = w0 at *
  generalize hlB : w.heap.size = B at *
  have HB0 := Lib.hid hB
  have y0 := hB.cell 0
  have y1 := hB.cell 1
  have y2 := hB.cell 2
  have y3 := hB.cell 3
  have y4 := hB.cell 4
  have y5 := hB.cell 5
  have y6 := hB.cell 6
  have y7 := hB.cell 7
  go_upto_region 4 with (first | (go_at_call 26; refine (refWord_c _ _ (by assumption) _).mono ?_; rintro e w2 ⟨rfl, h2⟩; obtain rfl := h2.symm))
  clear q0 q1 q2 q3 q4 q5 q6
  go_upto_region 5 with fail
  have H24 := Lib.hid (Row.lit w0 w0.heap.size (Nat.le_refl _) #[.int .u8 2, .int .u8 4] [2, 4] rfl (by unfold maxLen; simp) w0.heap.size rfl 2 rfl)
  have g24 : Grew w0 (w0.alloc (.cells #[.int .u8 2, .int .u8 4] 5)) := (Grew.refl _).alloc _
  have ewm := EWm.out
  have ym := (HB0.out.grew g24).cell 6
  go_upto_region 6 with (first
    | (go_at_call 27; refine (refPut19s_c f.m _ 2 (by rfl) (by omega) (by have := HNm.out; omega) (by have := HNm.out; omega) _).mono ?_; rintro e wm ⟨pm, cm, rfl, rm, bm, gm⟩; have HRM := Lib.hid (H24.out.grew gm); have HBM := Lib.hid bm; have GM := g24.trans gm; clear rm bm gm)
    | (refine wpList_append_b (W := w0) rfl (.tmp 52) (.tmp 56) rfl GM HRM.out HBM.out (by rfl) (by rfl) (by simp [putB_len]) ?_; intro vo w1 RO g1 xo; clear xo))
  have HO0 := RO.out.buf ((two_ok 2 4 (by omega) (by omega)).append (putB_ok f.m 2 true))
  obtain ⟨po, co, rfl, _, _⟩ := HO0.shape
  have HO := Lib.hid HO0
  rw [show ([2, 4] ++ putL f.m 2 true : List Int).length = 4 by simp [putB_len]] at HO ⊢
  clear HO0 RO ewm ym
  have HB := Lib.hid (HB0.out.grew g1)
  have HX := Lib.hid (H1.out.grew (g0.trans g1))
  have G01 := g0.trans g1
  clear y0 y1 y2 y3 y4 y5 y6 y7 hB HB0 g1 g0 m0
  have hst := (Grew.refl w1).drew1
  refine wp_region_held_drew (S := fun w' => Grew w1 w') (by kernel_rfl) (by exact hst) (fun hHeld => ?_)
  replace hHeld : Grew w1 w1.drew := hHeld
  generalize w1.drew = wq19 at *
  refine wpAnyH_take (i := 0) (v := ?_) rfl (by kernel_rfl) (by kernel_rfl) (by kernel_rfl) (fun _ _ _ h => h) (Or.inl ⟨by rfl, ?_⟩) hHeld ?_
  rotate_left
  · intro wq hSw
    replace hSw : Grew w1 wq := hSw
    go_simp
    try with_reducible rfl
  try simp only [List.getElem_toArray, List.getElem_cons_succ, List.getElem_cons_zero, Act.put, List.setIfInBounds_toArray, List.set_cons_zero, List.set_cons_succ]
  refine wpAnyH_take (i := 1) (v := ?_) rfl (by kernel_rfl) (by kernel_rfl) (by kernel_rfl) (fun _ _ _ h => h) (Or.inl ⟨by rfl, ?_⟩) hHeld ?_
  rotate_left
  · intro wq hSw
    replace hSw : Grew w1 wq := hSw
    have y0 := (HB.out.grew hSw).cell 0
    go_simp
    try with_reducible rfl
  try simp only [List.getElem_toArray, List.getElem_cons_succ, List.getElem_cons_zero, Act.put, List.setIfInBounds_toArray, List.set_cons_zero, List.set_cons_succ]
  refine wpAnyH_take (i := 2) (v := ?_) rfl (by kernel_rfl) (by kernel_rfl) (by kernel_rfl) (fun _ _ _ h => h) (Or.inl ⟨by rfl, ?_⟩) hHeld ?_
  rotate_left
  · intro wq hSw
    replace hSw : Grew w1 wq := hSw
    have ew := EWs.out
    go_simp
    try with_reducible rfl
  try simp only [List.getElem_toArray, List.getElem_cons_succ, List.getElem_cons_zero, Act.put, List.setIfInBounds_toArray, List.set_cons_zero, List.set_cons_succ]
  refine wpAnyH_take (i := 4) (v := ?_) rfl (by kernel_rfl) (by kernel_rfl) (by kernel_rfl) (fun _ _ _ h => h) (Or.inl ⟨by rfl, ?_⟩) hHeld ?_
  rotate_left
  · intro wq hSw
    replace hSw : Grew w1 wq := hSw
    go_simp
    try with_reducible rfl
  try simp only [List.getElem_toArray, List.getElem_cons_succ, List.getElem_cons_zero, Act.put, List.setIfInBounds_toArray, List.set_cons_zero, List.set_cons_succ]
  refine wpAnyH_take (i := 5) (v := ?_) rfl (by kernel_rfl) (by kernel_rfl) (by kernel_rfl) (fun _ _ _ h => h) (Or.inl ⟨by rfl, ?_⟩) hHeld ?_
  rotate_left
  · intro wq hSw
    replace hSw : Grew w1 wq := hSw
    have y1 := (HB.out.grew hSw).cell 1
    go_simp
    try with_reducible rfl
  try simp only [List.getElem_toArray, List.getElem_cons_succ, List.getElem_cons_zero, Act.put, List.setIfInBounds_toArray, List.set_cons_zero, List.set_cons_succ]
  refine wpAnyH_take (i := 6) (v := ?_) rfl (by kernel_rfl) (by kernel_rfl) (by kernel_rfl) (fun _ _ _ h => h) (Or.inl ⟨by rfl, ?_⟩) hHeld ?_
  rotate_left
  · intro wq hSw
    replace hSw : Grew w1 wq := hSw
    have ew := EWd.out
    go_simp
    try with_reducible rfl
  try simp only [List.getElem_toArray, List.getElem_cons_succ, List.getElem_cons_zero, Act.put, List.setIfInBounds_toArray, List.set_cons_zero, List.set_cons_succ]
  refine wpAnyH_take (i := 9) (v := ?_) rfl (by kernel_rfl) (by kernel_rfl) (by kernel_rfl) (fun _ _ _ h => h) (Or.inl ⟨by rfl, ?_⟩) hHeld ?_
  rotate_left
  · intro wq hSw
    replace hSw : Grew w1 wq := hSw
    go_simp
    try with_reducible rfl
  try simp only [List.getElem_toArray, List.getElem_cons_succ, List.getElem_cons_zero, Act.put, List.setIfInBounds_toArray, List.set_cons_zero, List.set_cons_succ]
  refine wpAnyH_take (i := 10) (v := ?_) rfl (by kernel_rfl) (by kernel_rfl) (by kernel_rfl) (fun _ _ _ h => h) (Or.inl ⟨by rfl, ?_⟩) hHeld ?_
  rotate_left
  · intro wq hSw
    replace hSw : Grew w1 wq := hSw
    have y2 := (HB.out.grew hSw).cell 2
    go_simp
    try with_reducible rfl
  try simp only [List.getElem_toArray, List.getElem_cons_succ, List.getElem_cons_zero, Act.put, List.setIfInBounds_toArray, List.set_cons_zero, List.set_cons_succ]
  refine wpAnyH_take (i := 11) (v := ?_) rfl (by kernel_rfl) (by kernel_rfl) (by kernel_rfl) (fun _ _ _ h => h) (Or.inl ⟨by rfl, ?_⟩) hHeld ?_
  rotate_left
  · intro wq hSw
    replace hSw : Grew w1 wq := hSw
    have ew := EWq.out
    go_simp
    try with_reducible rfl
  try simp only [List.getElem_toArray, List.getElem_cons_succ, List.getElem_cons_zero, Act.put, List.setIfInBounds_toArray, List.set_cons_zero, List.set_cons_succ]
  refine wpAnyH_take (i := 14) (v := ?_) rfl (by kernel_rfl) (by kernel_rfl) (by kernel_rfl) (fun _ _ _ h => h) (Or.inl ⟨by rfl, ?_⟩) hHeld ?_
  rotate_left
  · intro wq hSw
    replace hSw : Grew w1 wq := hSw
    go_simp
    try with_reducible rfl
  try simp only [List.getElem_toArray, List.getElem_cons_succ, List.getElem_cons_zero, Act.put, List.setIfInBounds_toArray, List.set_cons_zero, List.set_cons_succ]
  refine wpAnyH_take (i := 15) (v := ?_) rfl (by kernel_rfl) (by kernel_rfl) (by kernel_rfl) (fun _ _ _ h => h) (Or.inl ⟨by rfl, ?_⟩) hHeld ?_
  rotate_left
  · intro wq hSw
    replace hSw : Grew w1 wq := hSw
    have y3 := (HB.out.grew hSw).cell 3
    go_simp
    try with_reducible rfl
  try simp only [List.getElem_toArray, List.getElem_cons_succ, List.getElem_cons_zero, Act.put, List.setIfInBounds_toArray, List.set_cons_zero, List.set_cons_succ]
  refine wpAnyH_take (i := 16) (v := ?_) rfl (by kernel_rfl) (by kernel_rfl) (by kernel_rfl) (fun _ _ _ h => h) (Or.inl ⟨by rfl, ?_⟩) hHeld ?_
  rotate_left
  · intro wq hSw
    replace hSw : Grew w1 wq := hSw
    have ew := EWa.out
    go_simp
    try with_reducible rfl
  try simp only [List.getElem_toArray, List.getElem_cons_succ, List.getElem_cons_zero, Act.put, List.setIfInBounds_toArray, List.set_cons_zero, List.set_cons_succ]
  refine wpAnyH_ready (rs := [3]) (by kernel_rfl) (by simp) ?_
  refine AllReadyH.cons rfl (fun K hK => ?_) AllReadyH.nil
  go_simp
  refine (refPut19s_c (f.s) _ 2 (by rfl) (by omega) (by have := HNs.out; omega) (by have := HNs.out; omega) wq19).mono ?_
  rintro e wk20 ⟨pa, ca, rfl, Ra, Ha, gk20⟩
  replace Ra := Lib.hid (Ra.low hHeld.size)
  clear Ha
  refine hK.out _ _ (hHeld.trans gk20) (fun hHeld => ?_)
  clear hK K
  try simp only [List.getElem_toArray, List.getElem_cons_succ, List.getElem_cons_zero, Act.put, List.setIfInBounds_toArray, List.set_cons_zero, List.set_cons_succ]
  refine wpAnyH_ready (rs := [7]) (by kernel_rfl) (by simp) ?_
  refine AllReadyH.cons rfl (fun K hK => ?_) AllReadyH.nil
  go_simp
  refine (refPut19s_c (f.d) _ 2 (by rfl) (by omega) (by have := HNd.out; omega) (by have := HNd.out; omega) wk20).mono ?_
  rintro e wk21 ⟨pb, cb, rfl, Rb, Hb, gk21⟩
  replace Hb := Lib.hid Hb
  clear Rb
  replace Ra := Lib.hid (Ra.out.grew gk21)
  refine hK.out _ _ (hHeld.trans gk21) (fun hHeld => ?_)
  clear hK K
  try simp only [List.getElem_toArray, List.getElem_cons_succ, List.getElem_cons_zero, Act.put, List.setIfInBounds_toArray, List.set_cons_zero, List.set_cons_succ]
  refine wpAnyH_ready (rs := [8]) (by kernel_rfl) (by simp) ?_
  refine AllReadyH.cons rfl (fun K hK => ?_) AllReadyH.nil
  refine step_append_off (by simp [Region.wanted]) (.tmp 61) (.tmp 65) rfl hHeld Ra.out (Hb.out) (by rfl) (by rfl) (by simp only [List.length_append, putB_len, pre12_len, List.length_cons, List.length_nil]; have := HSM.out; omega) ?_
  intro vR2 wk22 R2 gk22 KR2 gb
  clear gb
  clear KR2
  refine hK.out _ _ (gk22) (fun hHeld => ?_)
  clear hK K
  try simp only [List.getElem_toArray, List.getElem_cons_succ, List.getElem_cons_zero, Act.put, List.setIfInBounds_toArray, List.set_cons_zero, List.set_cons_succ]
  refine wpAnyH_ready (rs := [12]) (by kernel_rfl) (by simp) ?_
  refine AllReadyH.cons rfl (fun K hK => ?_) AllReadyH.nil
  go_simp
  refine (refPut19s_c (f.q) _ 4 (by rfl) (by omega) (by have := HNq.out; omega) (by have := HNq.out; omega) wk22).mono ?_
  rintro e wk23 ⟨pc, cc, rfl, Rc, Hc, gk23⟩
  replace Hc := Lib.hid Hc
  clear Rc
  replace R2 := Lib.hid (R2.out.grew gk23)
  refine hK.out _ _ (hHeld.trans gk23) (fun hHeld => ?_)
  clear hK K
  try simp only [List.getElem_toArray, List.getElem_cons_succ, List.getElem_cons_zero, Act.put, List.setIfInBounds_toArray, List.set_cons_zero, List.set_cons_succ]
  refine wpAnyH_ready (rs := [13]) (by kernel_rfl) (by simp) ?_
  refine AllReadyH.cons rfl (fun K hK => ?_) AllReadyH.nil
  refine step_append_off (by simp [Region.wanted]) (.tmp 66) (.tmp 70) rfl hHeld R2.out (Hc.out) (by rfl) (by rfl) (by simp only [List.length_append, putB_len, pre12_len, List.length_cons, List.length_nil]; have := HSM.out; omega) ?_
  intro vR3 wk24 R3 gk24 KR3 gb
  clear gb
  clear KR3
  refine hK.out _ _ (gk24) (fun hHeld => ?_)
  clear hK K
  try simp only [List.getElem_toArray, List.getElem_cons_succ, List.getElem_cons_zero, Act.put, List.setIfInBounds_toArray, List.set_cons_zero, List.set_cons_succ]
  refine wpAnyH_ready (rs := [17]) (by kernel_rfl) (by simp) ?_
  refine AllReadyH.cons rfl (fun K hK => ?_) AllReadyH.nil
  go_simp
  refine (refPut19s_c (f.a) _ 4 (by rfl) (by omega) (by have := HNa.out; omega) (by have := HNa.out; omega) wk24).mono ?_
  rintro e wk25 ⟨pe, ce, rfl, Re, He, gk25⟩
  replace He := Lib.hid He
  clear Re
  replace R3 := Lib.hid (R3.out.grew gk25)
  refine hK.out _ _ (hHeld.trans gk25) (fun hHeld => ?_)
  clear hK K
  try simp only [List.getElem_toArray, List.getElem_cons_succ, List.getElem_cons_zero, Act.put, List.setIfInBounds_toArray, List.set_cons_zero, List.set_cons_succ]
  refine wpAnyH_ready (rs := [18]) (by kernel_rfl) (by simp) ?_
  refine AllReadyH.cons rfl (fun K hK => ?_) AllReadyH.nil
  refine step_append_off (by simp [Region.wanted]) (.tmp 71) (.tmp 75) rfl hHeld R3.out (He.out) (by rfl) (by rfl) (by simp only [List.length_append, putB_len, pre12_len, List.length_cons, List.length_nil]; have := HSM.out; omega) ?_
  intro vR4 wk26 R4 gk26 KR4 gb
  clear gb
  clear KR4
  refine hK.out _ _ (gk26) (fun hHeld => ?_)
  clear hK K
  try simp only [List.getElem_toArray, List.getElem_cons_succ, List.getElem_cons_zero, Act.put, List.setIfInBounds_toArray, List.set_cons_zero, List.set_cons_succ]
  refine wpAnyH_take (i := 19) (v := ?_) rfl (by kernel_rfl) (by kernel_rfl) (by kernel_rfl) (fun _ _ _ h => h) (Or.inl ⟨by rfl, ?_⟩) hHeld ?_
  rotate_left
  · intro wq hSw
    replace hSw : Grew w1 wq := hSw
    go_simp
    try with_reducible rfl
  try simp only [List.getElem_toArray, List.getElem_cons_succ, List.getElem_cons_zero, Act.put, List.setIfInBounds_toArray, List.set_cons_zero, List.set_cons_succ]
  refine wpAnyH_done (by kernel_rfl) ?_ _
  try simp only [List.getElem_toArray, List.getElem_cons_succ, List.getElem_cons_zero, Act.put, List.setIfInBounds_toArray, List.set_cons_zero, List.set_cons_succ]
  have HG6 := Lib.hid hHeld
  clear hHeld
  go_upto_region 7 with fail
  replace R4 := Lib.hid (R4.out.grew ((Grew.refl wk26).drew1))
  have hst := HG6.out.drew1
  refine wp_region_held_drew (S := fun w' => Grew w1 w') (by kernel_rfl) (by exact hst) (fun hHeld => ?_)
  replace hHeld : Grew w1 wk26.drew := hHeld
  generalize wk26.drew = wq27 at *
  refine wpAnyH_take (i := 0) (v := ?_) rfl (by kernel_rfl) (by kernel_rfl) (by kernel_rfl) (fun _ _ _ h => h) (Or.inl ⟨by rfl, ?_⟩) hHeld ?_
  rotate_left
  · intro wq hSw
    replace hSw : Grew w1 wq := hSw
    go_simp
    try with_reducible rfl
  try simp only [List.getElem_toArray, List.getElem_cons_succ, List.getElem_cons_zero, Act.put, List.setIfInBounds_toArray, List.set_cons_zero, List.set_cons_succ]
  refine wpAnyH_take (i := 1) (v := ?_) rfl (by kernel_rfl) (by kernel_rfl) (by kernel_rfl) (fun _ _ _ h => h) (Or.inl ⟨by rfl, ?_⟩) hHeld ?_
  rotate_left
  · intro wq hSw
    replace hSw : Grew w1 wq := hSw
    go_simp
    try with_reducible rfl
  try simp only [List.getElem_toArray, List.getElem_cons_succ, List.getElem_cons_zero, Act.put, List.setIfInBounds_toArray, List.set_cons_zero, List.set_cons_succ]
  refine wpAnyH_take (i := 2) (v := ?_) rfl (by kernel_rfl) (by kernel_rfl) (by kernel_rfl) (fun _ _ _ h => h) (Or.inl ⟨by rfl, ?_⟩) hHeld ?_
  rotate_left
  · intro wq hSw
    replace hSw : Grew w1 wq := hSw
    go_simp
    try with_reducible rfl
  try simp only [List.getElem_toArray, List.getElem_cons_succ, List.getElem_cons_zero, Act.put, List.setIfInBounds_toArray, List.set_cons_zero, List.set_cons_succ]
  refine wpAnyH_take (i := 3) (v := ?_) rfl (by kernel_rfl) (by kernel_rfl) (by kernel_rfl) (fun _ _ _ h => h) (Or.inl ⟨by rfl, ?_⟩) hHeld ?_
  rotate_left
  · intro wq hSw
    replace hSw : Grew w1 wq := hSw
    have e1 : IntKind.i64.wrap 16 = 16 := by decide
    have e2 : IntKind.i64.wrap 96 = 96 := by decide
    have e3 : IntKind.u8.wrap 96 = 96 := by decide
    go_simp
    try with_reducible rfl
  try simp only [List.getElem_toArray, List.getElem_cons_succ, List.getElem_cons_zero, Act.put, List.setIfInBounds_toArray, List.set_cons_zero, List.set_cons_succ]
  refine wpAnyH_take (i := 4) (v := ?_) rfl (by kernel_rfl) (by kernel_rfl) (by kernel_rfl) (fun _ _ _ h => h) (Or.inl ⟨by rfl, ?_⟩) hHeld ?_
  rotate_left
  · intro wq hSw
    replace hSw : Grew w1 wq := hSw
    have e1 : IntKind.i64.wrap 16 = 16 := by decide
    have e2 : IntKind.i64.wrap 96 = 96 := by decide
    have e3 : IntKind.u8.wrap 96 = 96 := by decide
    go_simp
    try with_reducible rfl
  try simp only [List.getElem_toArray, List.getElem_cons_succ, List.getElem_cons_zero, Act.put, List.setIfInBounds_toArray, List.set_cons_zero, List.set_cons_succ]
  refine wpAnyH_take (i := 5) (v := ?_) rfl (by kernel_rfl) (by kernel_rfl) (by kernel_rfl) (fun _ _ _ h => h) (Or.inl ⟨by rfl, ?_⟩) hHeld ?_
  rotate_left
  · intro wq hSw
    replace hSw : Grew w1 wq := hSw
    have e1 : IntKind.i64.wrap 16 = 16 := by decide
    have e2 : IntKind.i64.wrap 96 = 96 := by decide
    have e3 : IntKind.u8.wrap 96 = 96 := by decide
    go_simp
    try with_reducible rfl
  try simp only [List.getElem_toArray, List.getElem_cons_succ, List.getElem_cons_zero, Act.put, List.setIfInBounds_toArray, List.set_cons_zero, List.set_cons_succ]
  refine wpAnyH_take (i := 6) (v := ?_) rfl (by kernel_rfl) (by kernel_rfl) (by kernel_rfl) (fun _ _ _ h => h) (Or.inl ⟨by rfl, ?_⟩) hHeld ?_
  rotate_left
  · intro wq hSw
    replace hSw : Grew w1 wq := hSw
    go_simp
    try with_reducible rfl
  try simp only [List.getElem_toArray, List.getElem_cons_succ, List.getElem_cons_zero, Act.put, List.setIfInBounds_toArray, List.set_cons_zero, List.set_cons_succ]
  refine wpAnyH_take (i := 7) (v := ?_) rfl (by kernel_rfl) (by kernel_rfl) (by kernel_rfl) (fun _ _ _ h => h) (Or.inl ⟨by rfl, ?_⟩) hHeld ?_
  rotate_left
  · intro wq hSw
    replace hSw : Grew w1 wq := hSw
    have y4 := (HB.out.grew hSw).cell 4
    go_simp
    try with_reducible rfl
  try simp only [List.getElem_toArray, List.getElem_cons_succ, List.getElem_cons_zero, Act.put, List.setIfInBounds_toArray, List.set_cons_zero, List.set_cons_succ]
  refine wpAnyH_take (i := 8) (v := ?_) rfl (by kernel_rfl) (by kernel_rfl) (by kernel_rfl) (fun _ _ _ h => h) (Or.inl ⟨by rfl, ?_⟩) hHeld ?_
  rotate_left
  · intro wq hSw
    replace hSw : Grew w1 wq := hSw
    have ew := EWf.out
    go_simp
    try with_reducible rfl
  try simp only [List.getElem_toArray, List.getElem_cons_succ, List.getElem_cons_zero, Act.put, List.setIfInBounds_toArray, List.set_cons_zero, List.set_cons_succ]
  refine wpAnyH_take (i := 11) (v := ?_) rfl (by kernel_rfl) (by kernel_rfl) (by kernel_rfl) (fun _ _ _ h => h) (Or.inl ⟨by rfl, ?_⟩) hHeld ?_
  rotate_left
  · intro wq hSw
    replace hSw : Grew w1 wq := hSw
    go_simp
    try with_reducible rfl
  try simp only [List.getElem_toArray, List.getElem_cons_succ, List.getElem_cons_zero, Act.put, List.setIfInBounds_toArray, List.set_cons_zero, List.set_cons_succ]
  refine wpAnyH_take (i := 12) (v := ?_) rfl (by kernel_rfl) (by kernel_rfl) (by kernel_rfl) (fun _ _ _ h => h) (Or.inl ⟨by rfl, ?_⟩) hHeld ?_
  rotate_left
  · intro wq hSw
    replace hSw : Grew w1 wq := hSw
    have y5 := (HB.out.grew hSw).cell 5
    go_simp
    try with_reducible rfl
  try simp only [List.getElem_toArray, List.getElem_cons_succ, List.getElem_cons_zero, Act.put, List.setIfInBounds_toArray, List.set_cons_zero, List.set_cons_succ]
  refine wpAnyH_take (i := 13) (v := ?_) rfl (by kernel_rfl) (by kernel_rfl) (by kernel_rfl) (fun _ _ _ h => h) (Or.inl ⟨by rfl, ?_⟩) hHeld ?_
  rotate_left
  · intro wq hSw
    replace hSw : Grew w1 wq := hSw
    have ew := EWw.out
    go_simp
    try with_reducible rfl
  try simp only [List.getElem_toArray, List.getElem_cons_succ, List.getElem_cons_zero, Act.put, List.setIfInBounds_toArray, List.set_cons_zero, List.set_cons_succ]
  refine wpAnyH_ready (rs := [9]) (by kernel_rfl) (by simp) ?_
  refine AllReadyH.cons rfl (fun K hK => ?_) AllReadyH.nil
  go_simp
  have H0 : Hid (Buf (wq27.alloc (.cells #[.int .u8 96, .int .u8 f.fl] 5)) (.slice (some ⟨wq27.heap.size, 0, none⟩) 2 2) [96, f.fl]) := Lib.hid ((Row.lit wq27 wq27.heap.size (Nat.le_refl _) #[.int .u8 96, .int .u8 f.fl] [96, f.fl] rfl (by unfold maxLen; simp) _ rfl 2 rfl).buf (two_ok _ _ (by omega) (by have := HNf.out; omega)))
  have gk28 : Grew wq27 (wq27.alloc (.cells #[.int .u8 96, .int .u8 f.fl] 5)) := (Grew.refl _).alloc _
  have HO0 : Hid (([96, f.fl] : List Int) ≠ [] → Off vR4.ownBlock (.slice (some ⟨wq27.heap.size, 0, none⟩) 2 2)) := Lib.hid (fun _ q hq hk => by have h1 := R4.out.lt q hq; simp only [Value.ownBlock, Option.some.injEq] at hk; omega)
  replace R4 := Lib.hid (R4.out.grew gk28)
  generalize (wq27.alloc (.cells #[.int .u8 96, .int .u8 f.fl] 5)) = wk28 at *
  generalize wq27.heap.size = L0 at *
  refine hK.out _ _ (hHeld.trans gk28) (fun hHeld => ?_)
  clear hK K
  try simp only [List.getElem_toArray, List.getElem_cons_succ, List.getElem_cons_zero, Act.put, List.setIfInBounds_toArray, List.set_cons_zero, List.set_cons_succ]
  refine wpAnyH_ready (rs := [10]) (by kernel_rfl) (by simp) ?_
  refine AllReadyH.cons rfl (fun K hK => ?_) AllReadyH.nil
  refine step_append_off (by simp [Region.wanted]) (.tmp 77) (.tmp 86) rfl hHeld R4.out (H0.out) (by rfl) (by rfl) (by simp only [List.length_append, putB_len, pre12_len, List.length_cons, List.length_nil]; have := HSM.out; omega) ?_
  intro vR5 wk29 R5 gk29 KR5 gb
  clear gb
  clear H0 HO0
  clear KR5
  refine hK.out _ _ (gk29) (fun hHeld => ?_)
  clear hK K
  try simp only [List.getElem_toArray, List.getElem_cons_succ, List.getElem_cons_zero, Act.put, List.setIfInBounds_toArray, List.set_cons_zero, List.set_cons_succ]
  refine wpAnyH_ready (rs := [14]) (by kernel_rfl) (by simp) ?_
  refine AllReadyH.cons rfl (fun K hK => ?_) AllReadyH.nil
  go_simp
  refine (refPut19s_c (f.wn) _ 2 (by rfl) (by omega) (by have := HNw.out; omega) (by have := HNw.out; omega) wk29).mono ?_
  rintro e wk30 ⟨pg, cg, rfl, Rg, Hg, gk30⟩
  replace Hg := Lib.hid Hg
  clear Rg
  replace R5 := Lib.hid (R5.out.grew gk30)
  refine hK.out _ _ (hHeld.trans gk30) (fun hHeld => ?_)
  clear hK K
  try simp only [List.getElem_toArray, List.getElem_cons_succ, List.getElem_cons_zero, Act.put, List.setIfInBounds_toArray, List.set_cons_zero, List.set_cons_succ]
  refine wpAnyH_ready (rs := [15]) (by kernel_rfl) (by simp) ?_
  refine AllReadyH.cons rfl (fun K hK => ?_) AllReadyH.nil
  refine step_append_off (by simp [Region.wanted]) (.tmp 87) (.tmp 91) rfl hHeld R5.out (Hg.out) (by rfl) (by rfl) (by simp only [List.length_append, putB_len, pre12_len, List.length_cons, List.length_nil]; have := HSM.out; omega) ?_
  intro vR6 wk31 R6 gk31 KR6 gb
  clear gb
  clear KR6
  refine hK.out _ _ (gk31) (fun hHeld => ?_)
  clear hK K
  try simp only [List.getElem_toArray, List.getElem_cons_succ, List.getElem_cons_zero, Act.put, List.setIfInBounds_toArray, List.set_cons_zero, List.set_cons_succ]
  refine wpAnyH_take (i := 16) (v := ?_) rfl (by kernel_rfl) (by kernel_rfl) (by kernel_rfl) (fun _ _ _ h => h) (Or.inl ⟨by rfl, ?_⟩) hHeld ?_
  rotate_left
  · intro wq hSw
    replace hSw : Grew w1 wq := hSw
    go_simp
    try with_reducible rfl
  try simp only [List.getElem_toArray, List.getElem_cons_succ, List.getElem_cons_zero, Act.put, List.setIfInBounds_toArray, List.set_cons_zero, List.set_cons_succ]
  refine wpAnyH_done (by kernel_rfl) ?_ _
  try simp only [List.getElem_toArray, List.getElem_cons_succ, List.getElem_cons_zero, Act.put, List.setIfInBounds_toArray, List.set_cons_zero, List.set_cons_succ]
  have HG7 := Lib.hid hHeld
  clear hHeld
  go_upto_region 8 with fail
  replace R6 := Lib.hid (R6.out.grew ((Grew.refl wk31).drew1))
  have hst := HG7.out.drew1
  refine wp_region_held_drew (S := fun w' => Grew w1 w') (by kernel_rfl) (by exact hst) (fun hHeld => ?_)
  replace hHeld : Grew w1 wk31.drew := hHeld
  generalize wk31.drew = wq32 at *
  refine wpAnyH_take (i := 0) (v := ?_) rfl (by kernel_rfl) (by kernel_rfl) (by kernel_rfl) (fun _ _ _ h => h) (Or.inl ⟨by rfl, ?_⟩) hHeld ?_
  rotate_left
  · intro wq hSw
    replace hSw : Grew w1 wq := hSw
    go_simp
    try with_reducible rfl
  try simp only [List.getElem_toArray, List.getElem_cons_succ, List.getElem_cons_zero, Act.put, List.setIfInBounds_toArray, List.set_cons_zero, List.set_cons_succ]
  refine wpAnyH_take (i := 3) (v := ?_) rfl (by kernel_rfl) (by kernel_rfl) (by kernel_rfl) (fun _ _ _ h => h) (Or.inl ⟨by rfl, ?_⟩) hHeld ?_
  rotate_left
  · intro wq hSw
    replace hSw : Grew w1 wq := hSw
    go_simp
    try with_reducible rfl
  try simp only [List.getElem_toArray, List.getElem_cons_succ, List.getElem_cons_zero, Act.put, List.setIfInBounds_toArray, List.set_cons_zero, List.set_cons_succ]
  refine wpAnyH_take (i := 5) (v := ?_) rfl (by kernel_rfl) (by kernel_rfl) (by kernel_rfl) (fun _ _ _ h => h) (Or.inl ⟨by rfl, ?_⟩) hHeld ?_
  rotate_left
  · intro wq hSw
    replace hSw : Grew w1 wq := hSw
    go_simp
    try with_reducible rfl
  try simp only [List.getElem_toArray, List.getElem_cons_succ, List.getElem_cons_zero, Act.put, List.setIfInBounds_toArray, List.set_cons_zero, List.set_cons_succ]
  refine wpAnyH_take (i := 6) (v := ?_) rfl (by kernel_rfl) (by kernel_rfl) (by kernel_rfl) (fun _ _ _ h => h) (Or.inl ⟨by rfl, ?_⟩) hHeld ?_
  rotate_left
  · intro wq hSw
    replace hSw : Grew w1 wq := hSw
    have y7 := (HB.out.grew hSw).cell 7
    go_simp
    try with_reducible rfl
  try simp only [List.getElem_toArray, List.getElem_cons_succ, List.getElem_cons_zero, Act.put, List.setIfInBounds_toArray, List.set_cons_zero, List.set_cons_succ]
  refine wpAnyH_ready (rs := [1]) (by kernel_rfl) (by simp) ?_
  refine AllReadyH.cons rfl (fun K hK => ?_) AllReadyH.nil
  go_simp
  have H0 : Hid (Buf (wq32.alloc (.cells #[.int .u8 0, .int .u8 0, .int .u8 0, .int .u8 0] 5)) (.slice (some ⟨wq32.heap.size, 0, none⟩) 4 4) [0, 0, 0, 0]) := Lib.hid ((Row.lit wq32 wq32.heap.size (Nat.le_refl _) #[.int .u8 0, .int .u8 0, .int .u8 0, .int .u8 0] [0, 0, 0, 0] rfl (by unfold maxLen; simp) _ rfl 4 rfl).buf zeros4_ok)
  have gk33 : Grew wq32 (wq32.alloc (.cells #[.int .u8 0, .int .u8 0, .int .u8 0, .int .u8 0] 5)) := (Grew.refl _).alloc _
  have HO0 : Hid (([0, 0, 0, 0] : List Int) ≠ [] → Off vR6.ownBlock (.slice (some ⟨wq32.heap.size, 0, none⟩) 4 4)) := Lib.hid (fun _ q hq hk => by have h1 := R6.out.lt q hq; simp only [Value.ownBlock, Option.some.injEq] at hk; omega)
  replace R6 := Lib.hid (R6.out.grew gk33)
  generalize (wq32.alloc (.cells #[.int .u8 0, .int .u8 0, .int .u8 0, .int .u8 0] 5)) = wk33 at *
  generalize wq32.heap.size = L0 at *
  refine hK.out _ _ (hHeld.trans gk33) (fun hHeld => ?_)
  clear hK K
  try simp only [List.getElem_toArray, List.getElem_cons_succ, List.getElem_cons_zero, Act.put, List.setIfInBounds_toArray, List.set_cons_zero, List.set_cons_succ]
  refine wpAnyH_ready (rs := [2]) (by kernel_rfl) (by simp) ?_
  refine AllReadyH.cons rfl (fun K hK => ?_) AllReadyH.nil
  refine step_append_off (by simp [Region.wanted]) (.tmp 93) (.tmp 94) rfl hHeld R6.out (H0.out) (by rfl) (by rfl) (by simp only [List.length_append, putB_len, pre12_len, List.length_cons, List.length_nil]; have := HSM.out; omega) ?_
  intro vR7 wk34 R7 gk34 KR7 gb
  clear gb
  clear H0 HO0
  clear KR7
  refine hK.out _ _ (gk34) (fun hHeld => ?_)
  clear hK K
  try simp only [List.getElem_toArray, List.getElem_cons_succ, List.getElem_cons_zero, Act.put, List.setIfInBounds_toArray, List.set_cons_zero, List.set_cons_succ]
  refine wpAnyH_ready (rs := [4]) (by kernel_rfl) (by simp) ?_
  refine AllReadyH.cons rfl (fun K hK => ?_) AllReadyH.nil
  refine step_append_off (by simp [Region.wanted]) (.tmp 95) (.tmp 96) rfl hHeld R7.out (HO.out.grew hHeld) (by rfl) (by rfl) (by simp only [List.length_append, putB_len, pre12_len, List.length_cons, List.length_nil]; have := HSM.out; omega) ?_
  intro vR8 wk35 R8 gk35 KR8 gb
  clear gb
  clear KR8
  refine hK.out _ _ (gk35) (fun hHeld => ?_)
  clear hK K
  try simp only [List.getElem_toArray, List.getElem_cons_succ, List.getElem_cons_zero, Act.put, List.setIfInBounds_toArray, List.set_cons_zero, List.set_cons_succ]
  refine wpAnyH_ready (rs := [7]) (by kernel_rfl) (by simp) ?_
  refine AllReadyH.cons rfl (fun K hK => ?_) AllReadyH.nil
  refine step_append_off (by simp [Region.wanted]) (.tmp 97) (.tmp 99) rfl hHeld R8.out (HX.out.grew hHeld) (by rfl) (by rfl) (by simp only [List.length_append, putB_len, pre12_len, List.length_cons, List.length_nil]; have := HSM.out; omega) ?_
  intro vR9 wk36 R9 gk36 KR9 gb
  clear gb
  clear KR9
  refine hK.out _ _ (gk36) (fun hHeld => ?_)
  clear hK K
  try simp only [List.getElem_toArray, List.getElem_cons_succ, List.getElem_cons_zero, Act.put, List.setIfInBounds_toArray, List.set_cons_zero, List.set_cons_succ]
  refine wpAnyH_take (i := 8) (v := ?_) rfl (by kernel_rfl) (by kernel_rfl) (by kernel_rfl) (fun _ _ _ h => h) (Or.inl ⟨by rfl, ?_⟩) hHeld ?_
  rotate_left
  · intro wq hSw
    replace hSw : Grew w1 wq := hSw
    go_simp
    try with_reducible rfl
  try simp only [List.getElem_toArray, List.getElem_cons_succ, List.getElem_cons_zero, Act.put, List.setIfInBounds_toArray, List.set_cons_zero, List.set_cons_succ]
  refine wpAnyH_done (by kernel_rfl) ?_ _
  try simp only [List.getElem_toArray, List.getElem_cons_succ, List.getElem_cons_zero, Act.put, List.setIfInBounds_toArray, List.set_cons_zero, List.set_cons_succ]
  have HG8 := Lib.hid hHeld
  clear hHeld
  have HR := R9.out
  rw [HRAW.out] at HR
  replace HR := Lib.hid HR
  clear R9
  have HBR := Lib.hid (HR.out.buf (rawSG_ok HOK.out HXO.out))
  generalize wk36 = wc at *
  generalize vR9 = u9 at *
  obtain ⟨g, c, rfl, hgl⟩ : ∃ g c, u9 = .slice (some ⟨g, 0, none⟩) (slN f) c ∧ g < wc.heap.size := by
    rcases HR.out.2 with ⟨_, h2⟩ | ⟨g, cap, cur, h1, _, h3, _⟩
    · rw [rawSG_len] at h2; have := HSL.out; omega
    · exact ⟨g, cap, by rw [h1, rawSG_len], lt_of_block h3⟩
  have HUL := Lib.hid (show 20 ≤ slN f ∧ slN f ≤ 60024 by have h1 := HSL.out; have h2 := HSM.out; omega)
  go_wp2_with fail
  refine (refPseudo_c src dst 6 (slN f : Nat) hs hd (by omega) (by have := HUL.out; omega) wc).mono ?_
  rintro e wp ⟨u1, rfl, r1, b1, gp⟩
  have HP := Lib.hid r1
  have HB1 := Lib.hid (HBR.out.grew gp)
  have HR1 := Lib.hid (HR.out.grew gp)
  have hpo : ∀ k, u1.ownBlock = some k → wc.heap.size ≤ k := fun k hk => r1.ge k hk
  clear r1 b1
  go_upto_region 10 with (first
    | (refine wpList_append_b (W := wc) rfl (.tmp 105) (.tmp 106) rfl gp HP.out HB1.out (by rfl) (by rfl) (by rw [pseudoV_len, rawSG_len]; have := HUL.out; omega) ?_; intro vz wz RZ gz xz; have HR2 : Hid (Row wz w1.heap.size (.slice (some ⟨g, 0, none⟩) (slN f) c) (rawSG f)) := Lib.hid (World.ownsRow.kept HR1.out xz (Or.inr (fun e => by have := hpo g e.symm; omega))); clear xz)
    | (go_at_call 28; refine (refSum_c _ (RZ.out.buf ((psSG_ok src dst (slN f)).append (rawSG_ok HOK.out HXO.out))) (by rw [List.length_append, pseudoV_len, rawSG_len]; have := HUL.out; omega)).mono ?_; rintro e w3 ⟨rfl, g3⟩))
  have hr3 : Row w3 w1.heap.size (.slice (some ⟨g, 0, none⟩) (slN f) c) (rawSG f) := HR2.out.grew g3
  have G3 := HG8.out.trans (gz.trans g3)
  have hge : w1.heap.size ≤ g := hr3.size.2.1
  have y6 := hr3.cellAt 16 (by rw [rawSG_len]; have := HUL.out; omega)
  have y7 := hr3.cellAt 17 (by rw [rawSG_len]; have := HUL.out; omega)
  have f6 := hr3.freeAt 16
  have f7 := hr3.freeAt 17
  have k6 : (16 : Int) < (slN f : Nat) := by have := HUL.out; omega
  have k7 : (17 : Int) < (slN f : Nat) := by have := HUL.out; omega
  have hc := ckSG_lt f src dst
  have HCK : Hid (ckSG f src dst = sumV (pseudoV src dst 6 ((slN f : Nat) : Int) ++ rawSG f)) := Lib.hid rfl
  rw [HCK.out] at hc
  generalize sumV (pseudoV src dst 6 ((slN f : Nat) : Int) ++ rawSG f) = S at *
  clear HP HB1 HR1 hpo RZ HR2 HBR HR gp gz g3 HG6 HG7 HG8
  obtain ⟨M, rfl⟩ : ∃ M : Nat, S = (M : Int) := ⟨S.toNat, by omega⟩
  have HPU : Hid (putTwo (rawSG f) 16 ((M : Int) / 256) ((M : Int) % 256) = putSG f src dst) := Lib.hid (by unfold putSG; rw [HCK.out])
  have ew1 : IntKind.i64.wrap ((M : Int) / 256) = (M : Int) / 256 := IntWalk.i64_in _ (by omega)
  have ew2 : IntKind.u8.wrap ((M : Int) / 256) = (M : Int) / 256 := by rw [wrap_u8]; omega
  have ew3 : IntKind.u8.wrap ((M : Int) % 256) = (M : Int) % 256 := by rw [wrap_u8]; omega
  clear hc HCK
  go_upto_region 11 with fail
  have hr4 := (hr3.setCell 16 ((M : Int) / 256)).setCell 17 ((M : Int) % 256)
  have g4 := (G3.setCell (b := g) (o := 16) hge (.int .u8 ((M : Int) / 256))).setCell (b := g) (o := 17) hge (.int .u8 ((M : Int) % 256))
  rw [set_two _ 16 _ _ (by rw [rawSG_len]; have := HUL.out; omega)] at hr4
  have HR4 : Hid (Buf ((w3.setCell ⟨g, 16, none⟩ (.int .u8 ((M : Int) / 256))).setCell ⟨g, 17, none⟩ (.int .u8 ((M : Int) % 256))) (.slice (some ⟨g, 0, none⟩) (slN f) c) (putSG f src dst)) := Lib.hid (by rw [HPU.out] at hr4; exact hr4.buf (putSG_ok HOK.out HXO.out src dst))
  clear hr4 y6 f6 y7 f7 hr3
  go_wp2_with fail
  go_ret2
  exact ⟨_, rfl, HR4.out, G01.trans g4⟩
theorem refPut19_c {v : Value} {f : SGR} (src dst : Int) (hs : 0 ≤ src ∧ src < 4294967296) (hd : 0 ≤ dst ∧ dst < 4294967296) {w : World} (hv : Sg w v f) :
    Calls Try.prog 9 #[v, .int .u32 src, .int .u32 dst] w fun e w' => ∃ u, e = .returned (.tuple #[u, .int .i64 (putSGE f)]) ∧ Buf w' u (putSGB f src dst) ∧ Grew w w' := by
  have hq := hv.q
  have ha := hv.a
  unfold u32I at hq ha
  obtain ⟨p1, k1, rfl, b1⟩ := hv.shape
  have bad : okSG f = false → putSGE f = 2 ∧ putSGB f src dst = [] := fun h => by unfold putSGE putSGB; rw [h]; exact ⟨rfl, rfl⟩
  cases hok : okSG f
  · rw [(bad hok).1, (bad hok).2]
    cases q0 : wordV f.s
    · exact (refPutS_0 src dst q0 w).mono fun _ _ ⟨h1, h2⟩ => ⟨_, h1, Buf.nil _, h2⟩
    · cases q1 : wordV f.d
      · exact (refPutS_1 src dst q0 q1 w).mono fun _ _ ⟨h1, h2⟩ => ⟨_, h1, Buf.nil _, h2⟩
      · cases q2 : wordV f.wn
        · exact (refPutS_2 src dst q0 q1 q2 w).mono fun _ _ ⟨h1, h2⟩ => ⟨_, h1, Buf.nil _, h2⟩
        · cases q3 : wordV f.m
          · exact (refPutS_3 src dst q0 q1 q2 q3 w).mono fun _ _ ⟨h1, h2⟩ => ⟨_, h1, Buf.nil _, h2⟩
          · by_cases q4 : f.fl < 0
            · exact (refPutS_4 src dst q0 q1 q2 q3 q4 w).mono fun _ _ ⟨h1, h2⟩ => ⟨_, h1, Buf.nil _, h2⟩
            · by_cases q5 : 63 < f.fl
              · exact (refPutS_5 src dst q0 q1 q2 q3 q4 q5 w).mono fun _ _ ⟨h1, h2⟩ => ⟨_, h1, Buf.nil _, h2⟩
              · by_cases q6 : (60000 : Int) < (f.x.length : Nat)
                · exact (refPutS_6 src dst q0 q1 q2 q3 q4 q5 q6 w).mono fun _ _ ⟨h1, h2⟩ => ⟨_, h1, Buf.nil _, h2⟩
                · exfalso
                  unfold okSG at hok
                  rw [q0, q1, q2, q3, decide_eq_true (show 0 ≤ f.fl by omega), decide_eq_true (show f.fl ≤ 63 by omega), decide_eq_true (show f.x.length ≤ 60000 by omega)] at hok
                  simp at hok
  · rw [show putSGE f = 0 by unfold putSGE; rw [hok]; rfl, show putSGB f src dst = putSG f src dst by unfold putSGB; rw [hok]; rfl]
    by_cases hm : f.m = 0
    · exact refPutS_yes0 src dst hs hd hok hm ⟨hq.1, by omega⟩ ⟨ha.1, by omega⟩ b1
    · exact refPutS_yes1 src dst hs hd hok hm ⟨hq.1, by omega⟩ ⟨ha.1, by omega⟩ b1
end Go.Proofs.Ytiaejlbkdgcfiaa
