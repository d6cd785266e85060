/-
  The statement SegOptions: that options that nobody knows change nothing but the bytes. For every segment without Mss, every kind from 3 on and every number of bytes up to 30. Conditions: none but those of the statement's row.
-/
import Derived.Test.YtiaejlbkdgcfiaaSgH
import Derived.Test.YtiaejlbkdgcfiaaSgW
import Derived.Test.YtiaejlbkdgcfiaaSgQ
import Derived.Test.YtiaejlbkdgcfiaaSgP
import Derived.Test.YtiaejlbkdgcfiaaLaw
import Derived.Test.YtiaejlbkdgcfiaaSgZ
import Derived.Test.YtiaejlbkdgcfiaaZer
import Derived.Deep.CutBlock
import Derived.Test.YtiaejlbkdgcfiaaRowSet
set_option maxRecDepth 4000
set_option linter.unusedVariables false
set_option linter.unusedSimpArgs false
namespace Go.Proofs.Ytiaejlbkdgcfiaa.segOptions
open Go.ChangeShapes Go.WideShapes Go.ChangeAt Go.RowKit

theorem walk_far0 (hD : HeadC) {f : SGR} {p1 : Option Addr} {k1 : Nat} (kind n : Int) (h : (3000 : Int) < (f.x.length : Nat)) {W : World} :
    Calls Try.prog 6 #[.agg #[.int .i64 f.s, .int .i64 f.d, .int .u32 f.q, .int .u32 f.a, .int .i64 f.fl, .int .i64 f.wn, .int .i64 f.m, .slice p1 f.x.length k1], .int .u8 kind, .int .i64 n] W fun e w' => e = .returned (.bool true) ∧ Below W.heap.size W w' := by
  go_enter Try.func6, Try.ntmps6
  go_upto_region 1 with fail
  have hB : Blk (W.alloc (.cells #[.int .i64 f.s, .int .i64 f.d, .int .u32 f.q, .int .u32 f.a, .int .i64 f.fl, .int .i64 f.wn, .int .i64 f.m, .slice p1 f.x.length k1] 25)) W.heap.size #[.int .i64 f.s, .int .i64 f.d, .int .u32 f.q, .int .u32 f.a, .int .i64 f.fl, .int .i64 f.wn, .int .i64 f.m, .slice p1 f.x.length k1] 25 := Blk.new _ _ _ _ rfl
  have g0 : Grew W (W.alloc (.cells #[.int .i64 f.s, .int .i64 f.d, .int .u32 f.q, .int .u32 f.a, .int .i64 f.fl, .int .i64 f.wn, .int .i64 f.m, .slice p1 f.x.length k1] 25)) := (Grew.refl _).alloc _
  generalize (W.alloc (.cells #[.int .i64 f.s, .int .i64 f.d, .int .u32 f.q, .int .u32 f.a, .int .i64 f.fl, .int .i64 f.wn, .int .i64 f.m, .slice p1 f.x.length k1] 25)) = w0 at *
  generalize hlB : W.heap.size = B at *
  have y0 := hB.cell 0
  have y1 := hB.cell 1
  have y2 := hB.cell 2
  have y3 := hB.cell 3
  have y4 := hB.cell 4
  have y5 := hB.cell 5
  have y6 := hB.cell 6
  have y7 := hB.cell 7
  go_wp2_with fail
  refine (hD (g0)).mono ?_
  rintro e wh ⟨rfl, gh⟩
  go_wp2_with fail
  go_ret
  exact ⟨rfl, gh⟩
theorem walk_far1 (hD : HeadC) {f : SGR} {p1 : Option Addr} {k1 : Nat} (kind n : Int) (h0 : ¬ ((3000 : Int) < (f.x.length : Nat))) (h : kind < 3) {W : World} :
    Calls Try.prog 6 #[.agg #[.int .i64 f.s, .int .i64 f.d, .int .u32 f.q, .int .u32 f.a, .int .i64 f.fl, .int .i64 f.wn, .int .i64 f.m, .slice p1 f.x.length k1], .int .u8 kind, .int .i64 n] W fun e w' => e = .returned (.bool true) ∧ Below W.heap.size W w' := by
  go_enter Try.func6, Try.ntmps6
  go_upto_region 1 with fail
  have hB : Blk (W.alloc (.cells #[.int .i64 f.s, .int .i64 f.d, .int .u32 f.q, .int .u32 f.a, .int .i64 f.fl, .int .i64 f.wn, .int .i64 f.m, .slice p1 f.x.length k1] 25)) W.heap.size #[.int .i64 f.s, .int .i64 f.d, .int .u32 f.q, .int .u32 f.a, .int .i64 f.fl, .int .i64 f.wn, .int .i64 f.m, .slice p1 f.x.length k1] 25 := Blk.new _ _ _ _ rfl
  have g0 : Grew W (W.alloc (.cells #[.int .i64 f.s, .int .i64 f.d, .int .u32 f.q, .int .u32 f.a, .int .i64 f.fl, .int .i64 f.wn, .int .i64 f.m, .slice p1 f.x.length k1] 25)) := (Grew.refl _).alloc _
  generalize (W.alloc (.cells #[.int .i64 f.s, .int .i64 f.d, .int .u32 f.q, .int .u32 f.a, .int .i64 f.fl, .int .i64 f.wn, .int .i64 f.m, .slice p1 f.x.length k1] 25)) = w0 at *
  generalize hlB : W.heap.size = B at *
  have y0 := hB.cell 0
  have y1 := hB.cell 1
  have y2 := hB.cell 2
  have y3 := hB.cell 3
  have y4 := hB.cell 4
  have y5 := hB.cell 5
  have y6 := hB.cell 6
  have y7 := hB.cell 7
  go_wp2_with fail
  refine (hD (g0)).mono ?_
  rintro e wh ⟨rfl, gh⟩
  go_wp2_with fail
  go_ret
  exact ⟨rfl, gh⟩
theorem walk_far2 (hD : HeadC) {f : SGR} {p1 : Option Addr} {k1 : Nat} (kind n : Int) (h0 : ¬ ((3000 : Int) < (f.x.length : Nat))) (h1 : ¬ (kind < 3)) (h : n < 0) {W : World} :
    Calls Try.prog 6 #[.agg #[.int .i64 f.s, .int .i64 f.d, .int .u32 f.q, .int .u32 f.a, .int .i64 f.fl, .int .i64 f.wn, .int .i64 f.m, .slice p1 f.x.length k1], .int .u8 kind, .int .i64 n] W fun e w' => e = .returned (.bool true) ∧ Below W.heap.size W w' := by
  go_enter Try.func6, Try.ntmps6
  go_upto_region 1 with fail
  have hB : Blk (W.alloc (.cells #[.int .i64 f.s, .int .i64 f.d, .int .u32 f.q, .int .u32 f.a, .int .i64 f.fl, .int .i64 f.wn, .int .i64 f.m, .slice p1 f.x.length k1] 25)) W.heap.size #[.int .i64 f.s, .int .i64 f.d, .int .u32 f.q, .int .u32 f.a, .int .i64 f.fl, .int .i64 f.wn, .int .i64 f.m, .slice p1 f.x.length k1] 25 := Blk.new _ _ _ _ rfl
  have g0 : Grew W (W.alloc (.cells #[.int .i64 f.s, .int .i64 f.d, .int .u32 f.q, .int .u32 f.a, .int .i64 f.fl, .int .i64 f.wn, .int .i64 f.m, .slice p1 f.x.length k1] 25)) := (Grew.refl _).alloc _
  generalize (W.alloc (.cells #[.int .i64 f.s, .int .i64 f.d, .int .u32 f.q, .int .u32 f.a, .int .i64 f.fl, .int .i64 f.wn, .int .i64 f.m, .slice p1 f.x.length k1] 25)) = w0 at *
  generalize hlB : W.heap.size = B at *
  have y0 := hB.cell 0
  have y1 := hB.cell 1
  have y2 := hB.cell 2
  have y3 := hB.cell 3
  have y4 := hB.cell 4
  have y5 := hB.cell 5
  have y6 := hB.cell 6
  have y7 := hB.cell 7
  go_wp2_with fail
  refine (hD (g0)).mono ?_
  rintro e wh ⟨rfl, gh⟩
  go_wp2_with fail
  go_ret
  exact ⟨rfl, gh⟩
theorem walk_far3 (hD : HeadC) {f : SGR} {p1 : Option Addr} {k1 : Nat} (kind n : Int) (h0 : ¬ ((3000 : Int) < (f.x.length : Nat))) (h1 : ¬ (kind < 3)) (h2 : ¬ (n < 0)) (h : 30 < n) {W : World} :
    Calls Try.prog 6 #[.agg #[.int .i64 f.s, .int .i64 f.d, .int .u32 f.q, .int .u32 f.a, .int .i64 f.fl, .int .i64 f.wn, .int .i64 f.m, .slice p1 f.x.length k1], .int .u8 kind, .int .i64 n] W fun e w' => e = .returned (.bool true) ∧ Below W.heap.size W w' := by
  go_enter Try.func6, Try.ntmps6
  go_upto_region 1 with fail
  have hB : Blk (W.alloc (.cells #[.int .i64 f.s, .int .i64 f.d, .int .u32 f.q, .int .u32 f.a, .int .i64 f.fl, .int .i64 f.wn, .int .i64 f.m, .slice p1 f.x.length k1] 25)) W.heap.size #[.int .i64 f.s, .int .i64 f.d, .int .u32 f.q, .int .u32 f.a, .int .i64 f.fl, .int .i64 f.wn, .int .i64 f.m, .slice p1 f.x.length k1] 25 := Blk.new _ _ _ _ rfl
  have g0 : Grew W (W.alloc (.cells #[.int .i64 f.s, .int .i64 f.d, .int .u32 f.q, .int .u32 f.a, .int .i64 f.fl, .int .i64 f.wn, .int .i64 f.m, .slice p1 f.x.length k1] 25)) := (Grew.refl _).alloc _
  generalize (W.alloc (.cells #[.int .i64 f.s, .int .i64 f.d, .int .u32 f.q, .int .u32 f.a, .int .i64 f.fl, .int .i64 f.wn, .int .i64 f.m, .slice p1 f.x.length k1] 25)) = w0 at *
  generalize hlB : W.heap.size = B at *
  have y0 := hB.cell 0
  have y1 := hB.cell 1
  have y2 := hB.cell 2
  have y3 := hB.cell 3
  have y4 := hB.cell 4
  have y5 := hB.cell 5
  have y6 := hB.cell 6
  have y7 := hB.cell 7
  go_wp2_with fail
  refine (hD (g0)).mono ?_
  rintro e wh ⟨rfl, gh⟩
  go_wp2_with fail
  go_ret
  exact ⟨rfl, gh⟩
theorem walk_far4 (hD : HeadC) {f : SGR} {p1 : Option Addr} {k1 : Nat} (kind n : Int) (h0 : ¬ ((3000 : Int) < (f.x.length : Nat))) (h1 : ¬ (kind < 3)) (h2 : ¬ (n < 0)) (h3 : ¬ (30 < n)) (h : (f.m != 0) = true) {W : World} :
    Calls Try.prog 6 #[.agg #[.int .i64 f.s, .int .i64 f.d, .int .u32 f.q, .int .u32 f.a, .int .i64 f.fl, .int .i64 f.wn, .int .i64 f.m, .slice p1 f.x.length k1], .int .u8 kind, .int .i64 n] W fun e w' => e = .returned (.bool true) ∧ Below W.heap.size W w' := by
  go_enter Try.func6, Try.ntmps6
  go_upto_region 1 with fail
  have hB : Blk (W.alloc (.cells #[.int .i64 f.s, .int .i64 f.d, .int .u32 f.q, .int .u32 f.a, .int .i64 f.fl, .int .i64 f.wn, .int .i64 f.m, .slice p1 f.x.length k1] 25)) W.heap.size #[.int .i64 f.s, .int .i64 f.d, .int .u32 f.q, .int .u32 f.a, .int .i64 f.fl, .int .i64 f.wn, .int .i64 f.m, .slice p1 f.x.length k1] 25 := Blk.new _ _ _ _ rfl
  have g0 : Grew W (W.alloc (.cells #[.int .i64 f.s, .int .i64 f.d, .int .u32 f.q, .int .u32 f.a, .int .i64 f.fl, .int .i64 f.wn, .int .i64 f.m, .slice p1 f.x.length k1] 25)) := (Grew.refl _).alloc _
  generalize (W.alloc (.cells #[.int .i64 f.s, .int .i64 f.d, .int .u32 f.q, .int .u32 f.a, .int .i64 f.fl, .int .i64 f.wn, .int .i64 f.m, .slice p1 f.x.length k1] 25)) = w0 at *
  generalize hlB : W.heap.size = B at *
  have y0 := hB.cell 0
  have y1 := hB.cell 1
  have y2 := hB.cell 2
  have y3 := hB.cell 3
  have y4 := hB.cell 4
  have y5 := hB.cell 5
  have y6 := hB.cell 6
  have y7 := hB.cell 7
  go_wp2_with fail
  refine (hD (g0)).mono ?_
  rintro e wh ⟨rfl, gh⟩
  go_wp2_with fail
  go_ret
  exact ⟨rfl, gh⟩
set_option maxHeartbeats 1000000 in
theorem walk_no (hP : PutC) (hD : HeadC) {f : SGR} {p1 : Option Addr} {k1 : Nat} (kind n : Int) (h0 : ¬ ((3000 : Int) < (f.x.length : Nat))) (h1 : ¬ (kind < 3)) (h2 : ¬ (n < 0)) (h3 : ¬ (30 < n)) (h4 : (f.m != 0) = false) {W : World} (hok : okSG f = false) (hF : Sg W (.agg #[.int .i64 f.s, .int .i64 f.d, .int .u32 f.q, .int .u32 f.a, .int .i64 f.fl, .int .i64 f.wn, .int .i64 f.m, .slice p1 f.x.length k1]) f) :
    Calls Try.prog 6 #[.agg #[.int .i64 f.s, .int .i64 f.d, .int .u32 f.q, .int .u32 f.a, .int .i64 f.fl, .int .i64 f.wn, .int .i64 f.m, .slice p1 f.x.length k1], .int .u8 kind, .int .i64 n] W fun e w' => e = .returned (.bool true) ∧ Below W.heap.size W w' := by
  have HFX := Lib.hid (show f.x.length ≤ 140737488355328 by omega)
  have HF0 := Lib.hid hF
  have HE := Lib.hid (show putSGE f = 2 by unfold putSGE; rw [hok]; rfl)
  have HP := Lib.hid (show putSGB f 1 2 = [] by unfold putSGB; rw [hok]; rfl)
  clear hF
  go_enter Try.func6, Try.ntmps6
  go_upto_region 1 with fail
  have hB : Blk (W.alloc (.cells #[.int .i64 f.s, .int .i64 f.d, .int .u32 f.q, .int .u32 f.a, .int .i64 f.fl, .int .i64 f.wn, .int .i64 f.m, .slice p1 f.x.length k1] 25)) W.heap.size #[.int .i64 f.s, .int .i64 f.d, .int .u32 f.q, .int .u32 f.a, .int .i64 f.fl, .int .i64 f.wn, .int .i64 f.m, .slice p1 f.x.length k1] 25 := Blk.new _ _ _ _ rfl
  have g0 : Grew W (W.alloc (.cells #[.int .i64 f.s, .int .i64 f.d, .int .u32 f.q, .int .u32 f.a, .int .i64 f.fl, .int .i64 f.wn, .int .i64 f.m, .slice p1 f.x.length k1] 25)) := (Grew.refl _).alloc _
  generalize (W.alloc (.cells #[.int .i64 f.s, .int .i64 f.d, .int .u32 f.q, .int .u32 f.a, .int .i64 f.fl, .int .i64 f.wn, .int .i64 f.m, .slice p1 f.x.length k1] 25)) = w0 at *
  generalize hlB : W.heap.size = B at *
  have HF := Lib.hid (HF0.out.grew g0)
  have y0 := hB.cell 0
  have y1 := hB.cell 1
  have y2 := hB.cell 2
  have y3 := hB.cell 3
  have y4 := hB.cell 4
  have y5 := hB.cell 5
  have y6 := hB.cell 6
  have y7 := hB.cell 7
  go_wp2_with fail
  refine (hP 1 2 (by omega) (by omega) HFX.out HF.out).mono ?_
  rintro e w1 ⟨ua, rfl, Ha, g1⟩
  rw [HE.out]
  rw [HP.out] at Ha
  obtain ⟨pa, ka, rfl, _, _⟩ := Ha.shape
  replace HF := Lib.hid (HF.out.grew g1)
  replace hB := hB.grew g1
  replace Ha := Lib.hid Ha
  have G1 := g0.trans g1
  clear g1
  clear y0 y1 y2 y3 y4 y5 y6 y7
  go_wp2_with fail
  refine (hD (G1)).mono ?_
  rintro e wh ⟨rfl, gh⟩
  go_wp2_with fail
  go_ret
  exact ⟨rfl, gh⟩
set_option maxHeartbeats 8000000 in
theorem walk_yes (hP : PutC) (hG : GetC) (hD : HeadC) {f : SGR} {p1 : Option Addr} {k1 : Nat} (kind : Int) (hk : 0 ≤ kind ∧ kind < 256) (n : Nat) (h0 : ¬ ((3000 : Int) < (f.x.length : Nat))) (h1 : ¬ (kind < 3)) (h2 : ¬ ((n : Int) < 0)) (h3 : ¬ (30 < (n : Int))) (h4 : (f.m != 0) = false) {W : World} (hok : okSG f = true) (hF : Sg W (.agg #[.int .i64 f.s, .int .i64 f.d, .int .u32 f.q, .int .u32 f.a, .int .i64 f.fl, .int .i64 f.wn, .int .i64 f.m, .slice p1 f.x.length k1]) f) :
    Calls Try.prog 6 #[.agg #[.int .i64 f.s, .int .i64 f.d, .int .u32 f.q, .int .u32 f.a, .int .i64 f.fl, .int .i64 f.wn, .int .i64 f.m, .slice p1 f.x.length k1], .int .u8 kind, .int .i64 n] W fun e w' => e = .returned (.bool true) ∧ Below W.heap.size W w' := by
  obtain ⟨q1, r1, eq', hb1⟩ := hF.shape
  have hq := hF.q
  have ha := hF.a
  unfold u32I at hq ha
  have hm0 : f.m = 0 := by simpa using h4
  obtain ⟨R, hR, hR4⟩ := pad_ex n
  have hn30 : n ≤ 30 := by omega
  have HO := Lib.hid (OptF.of hok hq ha hb1.ok hm0 (by omega) (kind := kind) (by omega) hn30 hR hR4)
  have hpl := putSG_len f 1 2
  have hsl : slN f = 20 + f.x.length := by unfold slN opSG; rw [if_pos hm0]; rfl
  have HSO := Lib.hid (fun r => strange_ok (kind := kind) (by omega) (n := n) (r := r) hn30)
  have HFX := Lib.hid (show f.x.length ≤ 140737488355328 by omega)
  have HE := Lib.hid (show putSGE f = 0 by unfold putSGE; rw [hok]; rfl)
  have HP := Lib.hid (show putSGB f 1 2 = putSG f 1 2 by unfold putSGB; rw [hok]; rfl)
  have HPL := Lib.hid (show (putSG f 1 2).length = 20 + f.x.length by rw [hpl, hsl])
  have k20 : ¬ (((20 + f.x.length : Nat) : Int) < 20) := by omega
  have ewn : IntKind.u8.wrap ((n : Int) + 2) = (n : Int) + 2 := by rw [wrap_u8]; omega
  have hnl : 3 + n ≤ 140737488355328 := by omega
  have HF0 := Lib.hid hF
  have HR := Lib.hid (show R ≤ 3 ∧ (3 + n + R) % 4 = 0 ∧ n ≤ 30 from ⟨hR, hR4, hn30⟩)
  clear eq' hb1 hq ha hpl hsl hm0 hok hR hR4
  clear hF
  go_enter Try.func6, Try.ntmps6
  go_upto_region 1 with fail
  have hB : Blk (W.alloc (.cells #[.int .i64 f.s, .int .i64 f.d, .int .u32 f.q, .int .u32 f.a, .int .i64 f.fl, .int .i64 f.wn, .int .i64 f.m, .slice p1 f.x.length k1] 25)) W.heap.size #[.int .i64 f.s, .int .i64 f.d, .int .u32 f.q, .int .u32 f.a, .int .i64 f.fl, .int .i64 f.wn, .int .i64 f.m, .slice p1 f.x.length k1] 25 := Blk.new _ _ _ _ rfl
  have g0 : Grew W (W.alloc (.cells #[.int .i64 f.s, .int .i64 f.d, .int .u32 f.q, .int .u32 f.a, .int .i64 f.fl, .int .i64 f.wn, .int .i64 f.m, .slice p1 f.x.length k1] 25)) := (Grew.refl _).alloc _
  generalize (W.alloc (.cells #[.int .i64 f.s, .int .i64 f.d, .int .u32 f.q, .int .u32 f.a, .int .i64 f.fl, .int .i64 f.wn, .int .i64 f.m, .slice p1 f.x.length k1] 25)) = w0 at *
  generalize hlB : W.heap.size = B at *
  have HF := Lib.hid (HF0.out.grew g0)
  have y0 := hB.cell 0
  have y1 := hB.cell 1
  have y2 := hB.cell 2
  have y3 := hB.cell 3
  have y4 := hB.cell 4
  have y5 := hB.cell 5
  have y6 := hB.cell 6
  have y7 := hB.cell 7
  go_wp2_with fail
  refine (hP 1 2 (by omega) (by omega) HFX.out HF.out).mono ?_
  rintro e w1 ⟨ua, rfl, Ha, g1⟩
  rw [HE.out]
  rw [HP.out] at Ha
  obtain ⟨pa, ka, rfl, _, _⟩ := Ha.shape
  rw [HPL.out] at Ha ⊢
  replace HF := Lib.hid (HF.out.grew g1)
  replace hB := hB.grew g1
  replace Ha := Lib.hid Ha
  have G1 := g0.trans g1
  clear g1
  clear y0 y1 y2 y3 y4 y5 y6 y7 h0 h1 h2 h3 h4
  go_upto_region 6 with fail
  clear k20
  have gl : Grew w1 (w1.alloc (.cells #[.int .u8 1, .int .u8 kind, .int .u8 ((n : Int) + 2)] 5)) := (Grew.refl _).alloc _
  have HRL := Lib.hid (Row.lit w1 w1.heap.size (Nat.le_refl _) #[.int .u8 1, .int .u8 kind, .int .u8 ((n : Int) + 2)] [1, kind, (n : Int) + 2] rfl (by unfold maxLen; simp) w1.heap.size rfl 3 rfl)
  have HCS := Lib.hid (HRL.out.cells (g := w1.heap.size) rfl)
  go_upto_block 0 with (refine wpList_zeros_b (W := w1) rfl (.tmp 56) (.tmp 57) rfl gl (by rfl) HRL.out HCS.out n (by rfl) (by rfl) hnl ?_; intro vo wo RO go)
  have RO0 : Hid (Row wo w1.heap.size vo (strange kind n 0)) := Lib.hid (by have := RO.out; rwa [show ([1, kind, (n : Int) + 2] ++ List.replicate n 0 : List Int) = strange kind n 0 by simp [strange]] at this)
  clear RO HRL HCS gl ewn
  go_cut [9] from 59 to 65 (fun v wx => Hid (Row wx w1.heap.size v (strange kind n R)) ∧ Grew w1 wx)
  case first =>
    go_wp2_with fail
    go_loopw [9] (fun v wr => ∃ r : Nat, r ≤ R ∧ Hid (Row wr w1.heap.size v (strange kind n r)) ∧ Grew w1 wr) (fun v _ => R + 3 + n - lenV v)
    case atStart => exact ⟨0, Nat.zero_le _, RO0, go⟩
    case round =>
      obtain ⟨r, hr, HRr, gr⟩ := hrel
      have hbr := HRr.out.buf (HSO.out r)
      obtain ⟨po, co, rfl, _, _⟩ := hbr.shape
      rw [strange_len] at HRr ⊢
      clear hbr
      obtain ⟨L, hL⟩ : ∃ L, L = 3 + n + r := ⟨_, rfl⟩
      have hL36 := pad_36 HR.out.2.2 hr HR.out.1
      rw [← hL] at HRr hL36 ⊢
      have HL := Lib.hid hL
      clear hL
      by_cases hlt : r < R
      · have hne := pad_go HL.out hlt HR.out.1 HR.out.2.1
        have HLL := Lib.hid (pad_len kind (n := n) HR.out.2.2 hr HR.out.1)
        have g1 : Grew wr (wr.alloc (.cells #[.int .u8 1] 5)) := (Grew.refl _).alloc _
        have H1 := Lib.hid ((Row.lit wr wr.heap.size (Nat.le_refl _) #[.int .u8 1] [1] rfl (by unfold maxLen; simp) wr.heap.size rfl 1 rfl).buf (bytes_lit (by decide)))
        have HRa := Lib.hid (HRr.out.grew g1)
        have gra := gr.trans g1
        go_wp2_with (refine wpList_append_b (W := w1) rfl (.tmp 63) (.tmp 64) rfl gra HRa.out H1.out (by rfl) (by rfl) HLL.out ?_; intro v8 w8 R8 g8 x8; clear x8)
        go_roundw
        case rel => exact ⟨r + 1, hlt, Lib.hid (by rw [← strange_more]; exact R8.out), g8⟩
        case measure =>
          have hl8 := lenV_row R8.out
          rw [strange_more, strange_len] at hl8
          exact pad_meas HL.out hl8 hlt
      · have hrR : r = R := Nat.le_antisymm hr (Nat.le_of_not_lt hlt)
        subst hrR
        have hne := pad_end HL.out HR.out.2.1
        go_wp2_with fail
        go_meet
        exact ⟨HRr, gr⟩
  case rest =>
    obtain ⟨HRr, gr⟩ := hcut
    have hbr := HRr.out.buf (HSO.out R)
    obtain ⟨po, co, rfl, _, _⟩ := hbr.shape
    rw [HO.out.len] at hbr ⊢
    have HBR := Lib.hid hbr
    have h36 := HO.out.b1
    clear hbr HRr RO0 go HSO HR
    generalize strange kind n R = os at *
    generalize 3 + n + R = L at *
    have h40 : ¬ ((40 : Int) < (L : Nat)) := by omega
    have e8u := pad_80 h36
    have k12 : (12 : Int) < ((20 + L + f.x.length : Nat) : Int) := by omega
    have k16 : (16 : Int) < ((20 + L + f.x.length : Nat) : Int) := by omega
    have k17 : (17 : Int) < ((20 + L + f.x.length : Nat) : Int) := by omega
    have HK := Lib.hid (show 12 < 20 + L + f.x.length ∧ 16 < 20 + L + f.x.length ∧ 17 < 20 + L + f.x.length ∧ 0 < 20 + L + f.x.length by omega)
    clear hnl hn30
    have HA := Lib.hid (Ha.out.grew gr)
    replace HF := Lib.hid (HF.out.grew gr)
    replace hB := hB.grew gr
    have GR := G1.trans gr
    clear gr Ha
    generalize wc = wr at *
    obtain ⟨a1, c1, K1, x1, x2, hrun1, x4⟩ := HA.out.run_cut (lo := 0) (hi := 20) (by omega) (by rw [HPL.out]; omega)
    have HR1 : Hid (∀ w', (Instr.sliceAt 23 (.slice pa (20 + f.x.length) ka) none (some (.int .i64 20)) none).run Try.prog w' = .ok (.slice a1 20 c1) w') := Lib.hid (hrun1 rfl .i64)
    obtain ⟨a2, c2, K2, z1, z2, z3, hrun2⟩ := HA.out.run_cut (lo := 20) (hi := (putSG f 1 2).length) (by rw [HPL.out]; omega) (Nat.le_refl _)
    rw [HPL.out] at hrun2 K2
    rw [show 20 + f.x.length - 20 = f.x.length by omega] at hrun2 K2
    have HR2 : Hid (∀ w', (Instr.sliceAt 23 (.slice pa (20 + f.x.length) ka) (some (.int .i64 20)) none none).run Try.prog w' = .ok (.slice a2 f.x.length c2) w') := Lib.hid (hrun2 rfl .i64)
    replace K1 := Lib.hid K1
    replace K2 := Lib.hid K2
    clear x1 x2 x4 z1 z2 z3 hrun1 hrun2
    go_upto_region 11 with fail
    clear h40
    have hst := (Grew.refl wr).drew1
    refine wp_region_held_drew (S := fun w' => Grew wr w') (by kernel_rfl) (by exact hst) (fun hHeld => ?_)
    replace hHeld : Grew wr wr.drew := hHeld
    generalize wr.drew = wq16 at *
    refine wpAnyH_take (i := 1) (v := ?_) rfl (by kernel_rfl) (by kernel_rfl) (by kernel_rfl) (fun _ _ _ h => h) (Or.inl ⟨by rfl, ?_⟩) hHeld ?_
    rotate_left
    · intro wq hSw
      replace hSw : Grew wr wq := hSw
      go_simp
      try with_reducible rfl
    try simp only [List.getElem_toArray, List.getElem_cons_succ, List.getElem_cons_zero, Act.put, List.setIfInBounds_toArray, List.set_cons_zero, List.set_cons_succ]
    refine wpAnyH_take (i := 2) (v := ?_) rfl (by kernel_rfl) (by kernel_rfl) (by kernel_rfl) (fun _ _ _ h => h) (Or.inl ⟨by rfl, ?_⟩) hHeld ?_
    rotate_left
    · intro wq hSw
      replace hSw : Grew wr wq := hSw
      have r := HR1.out
      go_simp
      try with_reducible rfl
    try simp only [List.getElem_toArray, List.getElem_cons_succ, List.getElem_cons_zero, Act.put, List.setIfInBounds_toArray, List.set_cons_zero, List.set_cons_succ]
    refine wpAnyH_take (i := 4) (v := ?_) rfl (by kernel_rfl) (by kernel_rfl) (by kernel_rfl) (fun _ _ _ h => h) (Or.inl ⟨by rfl, ?_⟩) hHeld ?_
    rotate_left
    · intro wq hSw
      replace hSw : Grew wr wq := hSw
      go_simp
      try with_reducible rfl
    try simp only [List.getElem_toArray, List.getElem_cons_succ, List.getElem_cons_zero, Act.put, List.setIfInBounds_toArray, List.set_cons_zero, List.set_cons_succ]
    refine wpAnyH_take (i := 6) (v := ?_) rfl (by kernel_rfl) (by kernel_rfl) (by kernel_rfl) (fun _ _ _ h => h) (Or.inl ⟨by rfl, ?_⟩) hHeld ?_
    rotate_left
    · intro wq hSw
      replace hSw : Grew wr wq := hSw
      go_simp
      try with_reducible rfl
    try simp only [List.getElem_toArray, List.getElem_cons_succ, List.getElem_cons_zero, Act.put, List.setIfInBounds_toArray, List.set_cons_zero, List.set_cons_succ]
    refine wpAnyH_take (i := 7) (v := ?_) rfl (by kernel_rfl) (by kernel_rfl) (by kernel_rfl) (fun _ _ _ h => h) (Or.inl ⟨by rfl, ?_⟩) hHeld ?_
    rotate_left
    · intro wq hSw
      replace hSw : Grew wr wq := hSw
      have r := HR2.out
      go_simp
      try with_reducible rfl
    try simp only [List.getElem_toArray, List.getElem_cons_succ, List.getElem_cons_zero, Act.put, List.setIfInBounds_toArray, List.set_cons_zero, List.set_cons_succ]
    refine wpAnyH_ready (rs := [0]) (by kernel_rfl) (by simp) ?_
    refine AllReadyH.cons rfl (fun K hK => ?_) AllReadyH.nil
    go_simp
    have lo := hHeld.size
    have R0 : Row (wq16.alloc (.cells #[] 5)) wq16.heap.size (.slice (some ⟨wq16.heap.size, 0, none⟩) 0 0) [] := Row.lit wq16 wq16.heap.size (Nat.le_refl _) #[] [] rfl (by unfold maxLen; simp) _ rfl 0 rfl
    replace R0 := Lib.hid (R0.low lo)
    have gk17 : Grew wq16 (wq16.alloc (.cells #[] 5)) := (Grew.refl _).alloc _
    generalize (wq16.alloc (.cells #[] 5)) = wk17 at *
    generalize wq16.heap.size = Q0 at *
    refine hK.out _ _ (hHeld.trans gk17) (fun hHeld => ?_)
    clear hK K
    try simp only [List.getElem_toArray, List.getElem_cons_succ, List.getElem_cons_zero, Act.put, List.setIfInBounds_toArray, List.set_cons_zero, List.set_cons_succ]
    refine wpAnyH_ready (rs := [3]) (by kernel_rfl) (by simp) ?_
    refine AllReadyH.cons rfl (fun K hK => ?_) AllReadyH.nil
    refine step_append_off (by rfl) (.tmp 70) (.tmp 72) rfl hHeld R0.out (K1.out.grew hHeld) (by rfl) (by rfl) (HO.out.la) ?_
    intro vRa wk18 Ra gk18 KO gb
    clear KO gb R0
    refine hK.out _ _ (gk18) (fun hHeld => ?_)
    clear hK K
    try simp only [List.getElem_toArray, List.getElem_cons_succ, List.getElem_cons_zero, Act.put, List.setIfInBounds_toArray, List.set_cons_zero, List.set_cons_succ]
    refine wpAnyH_ready (rs := [5]) (by kernel_rfl) (by simp) ?_
    refine AllReadyH.cons rfl (fun K hK => ?_) AllReadyH.nil
    refine step_append_off (by rfl) (.tmp 73) (.tmp 74) rfl hHeld Ra.out (HBR.out.grew hHeld) (by rfl) (by rfl) (HO.out.lb) ?_
    intro vRb wk19 Rb gk19 KO gb
    clear KO gb Ra
    refine hK.out _ _ (gk19) (fun hHeld => ?_)
    clear hK K
    try simp only [List.getElem_toArray, List.getElem_cons_succ, List.getElem_cons_zero, Act.put, List.setIfInBounds_toArray, List.set_cons_zero, List.set_cons_succ]
    refine wpAnyH_ready (rs := [8]) (by kernel_rfl) (by simp) ?_
    refine AllReadyH.cons rfl (fun K hK => ?_) AllReadyH.nil
    refine step_append_off (by rfl) (.tmp 75) (.tmp 77) rfl hHeld Rb.out (K2.out.grew hHeld) (by rfl) (by rfl) (HO.out.lc) ?_
    intro vRc wk20 Rc gk20 KO gb
    clear KO gb Rb
    refine hK.out _ _ (gk20) (fun hHeld => ?_)
    clear hK K
    try simp only [List.getElem_toArray, List.getElem_cons_succ, List.getElem_cons_zero, Act.put, List.setIfInBounds_toArray, List.set_cons_zero, List.set_cons_succ]
    refine wpAnyH_take (i := 9) (v := ?_) rfl (by kernel_rfl) (by kernel_rfl) (by kernel_rfl) (fun _ _ _ h => h) (Or.inl ⟨by rfl, ?_⟩) hHeld ?_
    rotate_left
    · intro wq hSw
      replace hSw : Grew wr wq := hSw
      go_simp
      try with_reducible rfl
    try simp only [List.getElem_toArray, List.getElem_cons_succ, List.getElem_cons_zero, Act.put, List.setIfInBounds_toArray, List.set_cons_zero, List.set_cons_succ]
    refine wpAnyH_done (by kernel_rfl) ?_ _
    try simp only [List.getElem_toArray, List.getElem_cons_succ, List.getElem_cons_zero, Act.put, List.setIfInBounds_toArray, List.set_cons_zero, List.set_cons_succ]
    have hrc : Row wk20 wr.heap.size vRc (cutL (putSG f 1 2) 0 20 ++ os ++ cutL (putSG f 1 2) 20 (20 + f.x.length)) := by have := Rc.out; rwa [List.nil_append] at this
    have HLC := Lib.hid HO.out.clen
    have HRW := Lib.hid HO.out.raw
    generalize cutL (putSG f 1 2) 0 20 ++ os ++ cutL (putSG f 1 2) 20 (20 + f.x.length) = cs at *
    obtain ⟨g, c, rfl, hgl⟩ : ∃ g c, vRc = .slice (some ⟨g, 0, none⟩) (20 + L + f.x.length) c ∧ g < wk20.heap.size := by
      rcases hrc.2 with ⟨_, h2⟩ | ⟨g, cap, cur, h1, _, h3, _⟩
      · rw [HLC.out] at h2; exact absurd h2 (Nat.ne_of_gt HK.out.2.2.2)
      · exact ⟨g, cap, by rw [h1, HLC.out], lt_of_block h3⟩
    have hge : wr.heap.size ≤ g := hrc.size.2.1
    have G11 := hHeld
    clear hHeld Rc K1 K2 HR1 HR2 HA hgl
    have m12 := hrc.freeAt 12
    have y12 := hrc.cellAt 12 (by rw [HLC.out]; exact HK.out.1)
    go_upto_region 13 with fail
    have hr12 := hrc.setCell 12 (80 + 4 * (L : Int))
    have G12 := G11.setCell (b := g) (o := 12) hge (.int .u8 (80 + 4 * (L : Int)))
    clear m12 y12 hrc G11 e8u k12
    generalize (wk20.setCell ⟨g, 12, none⟩ (.int .u8 (80 + 4 * (L : Int)))) = x12 at *
    have m16 := hr12.freeAt 16
    have m17 := hr12.freeAt 17
    have y16 := hr12.cellAt 16 (by rw [List.length_set, HLC.out]; exact HK.out.2.1)
    have y17 := hr12.cellAt 17 (by rw [List.length_set, HLC.out]; exact HK.out.2.2.1)
    go_upto_region 14 with fail
    have hr17 := (hr12.setCell 16 0).setCell 17 0
    have G17 := (G12.setCell (b := g) (o := 16) hge (.int .u8 0)).setCell (b := g) (o := 17) hge (.int .u8 0)
    clear m16 m17 y16 y17 hr12 G12 k16 k17
    generalize ((x12.setCell ⟨g, 16, none⟩ (.int .u8 0)).setCell ⟨g, 17, none⟩ (.int .u8 0)) = x17 at *
    rw [HRW.out] at hr17
    have HR17 := Lib.hid (hr17.buf HO.out.rok)
    clear hr17
    have GG := GR.trans G17
    replace HF := Lib.hid (HF.out.grew G17)
    replace hB := hB.grew G17
    clear GR G17 HBR
    go_wp2_with fail
    refine (patched_c HO.out.rlen HR17.out).mono ?_
    rintro e xp ⟨up, rfl, hbp, gp⟩
    rw [HO.out.put] at hbp
    obtain ⟨pp, cp, rfl, _, _⟩ := hbp.shape
    have HBP := Lib.hid hbp
    have GP := GG.trans gp
    replace HF := Lib.hid (HF.out.grew gp)
    replace hB := hB.grew gp
    clear hbp gp GG HR17
    have HSL := Lib.hid HO.out.slen
    have HG1 := Lib.hid HO.out.got1
    have HG2 := Lib.hid HO.out.got2
    go_wp2_with fail
    refine (hG 1 2 (by omega) (by omega) HSL.out HBP.out).mono ?_
    rintro e w31 ⟨uv, rfl, Hv, g31⟩
    rw [HG1.out]
    rw [HG2.out] at Hv
    have Ev := Hv.shape
    obtain ⟨vp1, vk1, rfl, _⟩ := Ev
    replace HF := Lib.hid (HF.out.grew g31)
    replace hB := hB.grew g31
    replace Hv := Lib.hid Hv
    have G31 := GP.trans g31
    clear g31
    go_upto_region 15 with fail
    have g32 : Grew w31 (w31.alloc (.cells #[.int .i64 f.s, .int .i64 f.d, .int .u32 f.q, .int .u32 f.a, .int .i64 f.fl, .int .i64 f.wn, .int .i64 f.m, .slice vp1 f.x.length vk1] 25)) := (Grew.refl _).alloc _
    have hX11 : Blk (w31.alloc (.cells #[.int .i64 f.s, .int .i64 f.d, .int .u32 f.q, .int .u32 f.a, .int .i64 f.fl, .int .i64 f.wn, .int .i64 f.m, .slice vp1 f.x.length vk1] 25)) w31.heap.size #[.int .i64 f.s, .int .i64 f.d, .int .u32 f.q, .int .u32 f.a, .int .i64 f.fl, .int .i64 f.wn, .int .i64 f.m, .slice vp1 f.x.length vk1] 25 := Blk.new _ _ _ _ rfl
    replace HF := Lib.hid (HF.out.grew g32)
    replace Hv := Lib.hid (Hv.out.grew g32)
    replace hB := hB.grew g32
    have G32 := G31.trans g32
    clear g32
    generalize (w31.alloc (.cells #[.int .i64 f.s, .int .i64 f.d, .int .u32 f.q, .int .u32 f.a, .int .i64 f.fl, .int .i64 f.wn, .int .i64 f.m, .slice vp1 f.x.length vk1] 25)) = w32 at *
    generalize w31.heap.size = X11 at *
    obtain ⟨v1v, v2v, evv, hvv⟩ := HF.out.shape
    simp only [sgV, Value.agg.injEq, Array.mk.injEq, List.cons.injEq, Value.slice.injEq, and_true, true_and] at evv
    obtain ⟨rfl, rfl⟩ := evv
    have HV1 := Lib.hid hvv
    clear hvv
    obtain ⟨v1t, v2t, evt, hvt⟩ := Hv.out.shape
    simp only [sgV, Value.agg.injEq, Array.mk.injEq, List.cons.injEq, Value.slice.injEq, and_true, true_and] at evt
    obtain ⟨rfl, rfl⟩ := evt
    have HW1 := Lib.hid hvt
    clear hvt
    have hst := (Grew.refl w32).drew1
    refine wp_region_held_drew (S := fun w' => Grew w32 w') (by kernel_rfl) (by exact hst) (fun hHeld => ?_)
    replace hHeld : Grew w32 w32.drew := hHeld
    generalize w32.drew = wq21 at *
    refine wpAnyH_take (i := 0) (v := ?_) rfl (by kernel_rfl) (by kernel_rfl) (by kernel_rfl) (fun _ _ _ h => h) (Or.inl ⟨by rfl, ?_⟩) hHeld ?_
    rotate_left
    · intro wq hSw
      replace hSw : Grew w32 wq := hSw
      go_simp
      try with_reducible rfl
    try simp only [List.getElem_toArray, List.getElem_cons_succ, List.getElem_cons_zero, Act.put, List.setIfInBounds_toArray, List.set_cons_zero, List.set_cons_succ]
    refine wpAnyH_take (i := 1) (v := ?_) rfl (by kernel_rfl) (by kernel_rfl) (by kernel_rfl) (fun _ _ _ h => h) (Or.inl ⟨by rfl, ?_⟩) hHeld ?_
    rotate_left
    · intro wq hSw
      replace hSw : Grew w32 wq := hSw
      go_simp
      try with_reducible rfl
    try simp only [List.getElem_toArray, List.getElem_cons_succ, List.getElem_cons_zero, Act.put, List.setIfInBounds_toArray, List.set_cons_zero, List.set_cons_succ]
    refine wpAnyH_take (i := 2) (v := ?_) rfl (by kernel_rfl) (by kernel_rfl) (by kernel_rfl) (fun _ _ _ h => h) (Or.inl ⟨by rfl, ?_⟩) hHeld ?_
    rotate_left
    · intro wq hSw
      replace hSw : Grew w32 wq := hSw
      go_simp
      try with_reducible rfl
    try simp only [List.getElem_toArray, List.getElem_cons_succ, List.getElem_cons_zero, Act.put, List.setIfInBounds_toArray, List.set_cons_zero, List.set_cons_succ]
    refine wpAnyH_take (i := 3) (v := ?_) rfl (by kernel_rfl) (by kernel_rfl) (by kernel_rfl) (fun _ _ _ h => h) (Or.inl ⟨by rfl, ?_⟩) hHeld ?_
    rotate_left
    · intro wq hSw
      replace hSw : Grew w32 wq := hSw
      have y0 := (hB.grew hSw).cell 0
      have y1 := (hB.grew hSw).cell 1
      have y2 := (hB.grew hSw).cell 2
      have y3 := (hB.grew hSw).cell 3
      have y4 := (hB.grew hSw).cell 4
      have y5 := (hB.grew hSw).cell 5
      have y6 := (hB.grew hSw).cell 6
      have y7 := (hB.grew hSw).cell 7
      go_simp
      try with_reducible rfl
    try simp only [List.getElem_toArray, List.getElem_cons_succ, List.getElem_cons_zero, Act.put, List.setIfInBounds_toArray, List.set_cons_zero, List.set_cons_succ]
    refine wpAnyH_take (i := 5) (v := ?_) rfl (by kernel_rfl) (by kernel_rfl) (by kernel_rfl) (fun _ _ _ h => h) (Or.inl ⟨by rfl, ?_⟩) hHeld ?_
    rotate_left
    · intro wq hSw
      replace hSw : Grew w32 wq := hSw
      have y0 := (hX11.grew hSw).cell 0
      have y1 := (hX11.grew hSw).cell 1
      have y2 := (hX11.grew hSw).cell 2
      have y3 := (hX11.grew hSw).cell 3
      have y4 := (hX11.grew hSw).cell 4
      have y5 := (hX11.grew hSw).cell 5
      have y6 := (hX11.grew hSw).cell 6
      have y7 := (hX11.grew hSw).cell 7
      go_simp
      try with_reducible rfl
    try simp only [List.getElem_toArray, List.getElem_cons_succ, List.getElem_cons_zero, Act.put, List.setIfInBounds_toArray, List.set_cons_zero, List.set_cons_succ]
    refine wpAnyH_ready (rs := [4]) (by kernel_rfl) (by simp) ?_
    refine AllReadyH.cons rfl (fun K hK => ?_) AllReadyH.nil
    go_simp
    refine (one_c (f := f)).mono ?_
    rintro e wk22 ⟨A1, T1, rfl, HA1, gk22⟩
    replace HA1 := Lib.hid HA1
    refine hK.out _ _ (hHeld.trans gk22) (fun hHeld => ?_)
    clear hK K
    try simp only [List.getElem_toArray, List.getElem_cons_succ, List.getElem_cons_zero, Act.put, List.setIfInBounds_toArray, List.set_cons_zero, List.set_cons_succ]
    refine wpAnyH_ready (rs := [6]) (by kernel_rfl) (by simp) ?_
    refine AllReadyH.cons rfl (fun K hK => ?_) AllReadyH.nil
    go_simp
    refine (one_c (f := f)).mono ?_
    rintro e wk23 ⟨B1, T2, rfl, HB1, gk23⟩
    replace HB1 := Lib.hid HB1
    replace HA1 := Lib.hid (HA1.out.grew gk23)
    refine hK.out _ _ (hHeld.trans gk23) (fun hHeld => ?_)
    clear hK K
    try simp only [List.getElem_toArray, List.getElem_cons_succ, List.getElem_cons_zero, Act.put, List.setIfInBounds_toArray, List.set_cons_zero, List.set_cons_succ]
    refine wpAnyH_ready (rs := [7]) (by kernel_rfl) (by simp) ?_
    refine AllReadyH.cons rfl (fun K hK => ?_) AllReadyH.nil
    go_simp
    refine (same19_c (f := f) HA1.out HB1.out (HV1.out.grew hHeld) (HW1.out.grew hHeld)).mono ?_
    rintro e wk24 ⟨rfl, gk24⟩
    replace HA1 := Lib.hid (HA1.out.grew gk24)
    replace HB1 := Lib.hid (HB1.out.grew gk24)
    refine hK.out _ _ (hHeld.trans gk24) (fun hHeld => ?_)
    clear hK K
    try simp only [List.getElem_toArray, List.getElem_cons_succ, List.getElem_cons_zero, Act.put, List.setIfInBounds_toArray, List.set_cons_zero, List.set_cons_succ]
    refine wpAnyH_take (i := 8) (v := ?_) rfl (by kernel_rfl) (by kernel_rfl) (by kernel_rfl) (fun _ _ _ h => h) (Or.inl ⟨by rfl, ?_⟩) hHeld ?_
    rotate_left
    · intro wq hSw
      replace hSw : Grew w32 wq := hSw
      go_simp
      try with_reducible rfl
    try simp only [List.getElem_toArray, List.getElem_cons_succ, List.getElem_cons_zero, Act.put, List.setIfInBounds_toArray, List.set_cons_zero, List.set_cons_succ]
    refine wpAnyH_take (i := 9) (v := ?_) rfl (by kernel_rfl) (by kernel_rfl) (by kernel_rfl) (fun _ _ _ h => h) (Or.inl ⟨by rfl, ?_⟩) hHeld ?_
    rotate_left
    · intro wq hSw
      replace hSw : Grew w32 wq := hSw
      go_simp
      try with_reducible rfl
    try simp only [List.getElem_toArray, List.getElem_cons_succ, List.getElem_cons_zero, Act.put, List.setIfInBounds_toArray, List.set_cons_zero, List.set_cons_succ]
    refine wpAnyH_ready (rs := [10]) (by kernel_rfl) (by simp) ?_
    refine AllReadyH.cons rfl (fun K hK => ?_) AllReadyH.nil
    go_simp
    refine (hD (Grew.refl wk24)).mono ?_
    rintro e wk25 ⟨rfl, gk25⟩
    replace HA1 := Lib.hid (HA1.out.grew gk25)
    replace HB1 := Lib.hid (HB1.out.grew gk25)
    refine hK.out _ _ (hHeld.trans gk25) (fun hHeld => ?_)
    clear hK K
    try simp only [List.getElem_toArray, List.getElem_cons_succ, List.getElem_cons_zero, Act.put, List.setIfInBounds_toArray, List.set_cons_zero, List.set_cons_succ]
    refine wpAnyH_take (i := 11) (v := ?_) rfl (by kernel_rfl) (by kernel_rfl) (by kernel_rfl) (fun _ _ _ h => h) (Or.inl ⟨by rfl, ?_⟩) hHeld ?_
    rotate_left
    · intro wq hSw
      replace hSw : Grew w32 wq := hSw
      go_simp
      try with_reducible rfl
    try simp only [List.getElem_toArray, List.getElem_cons_succ, List.getElem_cons_zero, Act.put, List.setIfInBounds_toArray, List.set_cons_zero, List.set_cons_succ]
    refine wpAnyH_take (i := 12) (v := ?_) rfl (by kernel_rfl) (by kernel_rfl) (by kernel_rfl) (fun _ _ _ h => h) (Or.inl ⟨by rfl, ?_⟩) hHeld ?_
    rotate_left
    · intro wq hSw
      replace hSw : Grew w32 wq := hSw
      go_simp
      try with_reducible rfl
    try simp only [List.getElem_toArray, List.getElem_cons_succ, List.getElem_cons_zero, Act.put, List.setIfInBounds_toArray, List.set_cons_zero, List.set_cons_succ]
    refine wpAnyH_done (by kernel_rfl) ?_ _
    try simp only [List.getElem_toArray, List.getElem_cons_succ, List.getElem_cons_zero, Act.put, List.setIfInBounds_toArray, List.set_cons_zero, List.set_cons_succ]
    go_wp2_with fail
    go_ret
    exact ⟨rfl, G32.trans hHeld⟩
theorem walk0 (hP : PutC) (hG : GetC) (_hL : LessC) (_hN : LenC) (hD : HeadC) (v : Value) (f : SGR) (kind : Int) (hk : 0 ≤ kind ∧ kind < 256) (n : Int) (_ : -9223372036854775808 ≤ n ∧ n ≤ 9223372036854775807) {W : World} (hF : Sg W v f) (_ : f.x.length ≤ 140737488355328) :
    Calls Try.prog 6 #[v, .int .u8 kind, .int .i64 n] W fun e w' => e = .returned (.bool true) ∧ Below W.heap.size W w' := by
  have hF' := hF
  obtain ⟨p1, k1, rfl, _⟩ := hF'.shape
  by_cases h0 : (3000 : Int) < (f.x.length : Nat)
  · exact walk_far0 hD kind n h0
  · by_cases h1 : kind < 3
    · exact walk_far1 hD kind n h0 h1
    · by_cases h2 : n < 0
      · exact walk_far2 hD kind n h0 h1 h2
      · by_cases h3 : 30 < n
        · exact walk_far3 hD kind n h0 h1 h2 h3
        · cases h4 : (f.m != 0)
          · cases hok : okSG f
            · exact walk_no hP hD kind n h0 h1 h2 h3 h4 hok hF
            · obtain ⟨m, rfl⟩ : ∃ m : Nat, n = (m : Int) := ⟨n.toNat, by omega⟩
              exact walk_yes hP hG hD kind hk m h0 h1 h2 h3 h4 hok hF
          · exact walk_far4 hD kind n h0 h1 h2 h3 h4
theorem walk (v : Value) (f : SGR) (kind : Int) (hk : 0 ≤ kind ∧ kind < 256) (n : Int) (hn : -9223372036854775808 ≤ n ∧ n ≤ 9223372036854775807) (W : World) (hF : Sg W v f) (hl : f.x.length ≤ 140737488355328) :
    Calls Try.prog 6 #[v, .int .u8 kind, .int .i64 n] W fun e w' => e = .returned (.bool true) ∧ Below W.heap.size W w' :=
  walk0 put19_c get19_c less19_c len19_c heads_c v f kind hk n hn hF hl
set_option maxRecDepth 100000 in
theorem lifted (os : Os) (started : os.Started) (H : Type) (enc : TypeId × Value → H) :
    ReturnsInHanded {} Try.checked os 6 .any (Rows.segOptionsSpec.pre6 enc Try.prog Try.f6 Rows.segOptionsRow.domain false) (Rows.segOptionsSpec.post enc Try.prog Try.f6 false true false false) := by
  refine returnsInHanded_of_change_sized (C := Try.checked) own started (by kernel_rfl) Try.func6
    (ChangeSpec.witness6 (enc := enc) (C := Try.checked) false ⟨#[], #[.agg #[.int .i64 0, .int .i64 0, .int .u32 0, .int .u32 0, .int .i64 0, .int .i64 0, .int .i64 0, .slice none 0 0], .int .u8 0, .int .i64 0], []⟩ 8 (by kernel_rfl) (by kernel_rfl) (by kernel_rfl) (by kernel_rfl)) ?_
  intro W base args ds gs before hval0 hW _ hz0 _
  have hval : ∀ (j : Nat) t v, Try.f6.params[j]? = some t → args[j]? = some v → Value.okWide Try.prog W .any base t v := hval0
  have hW' := hW
  obtain ⟨p, q, hA0, hV, rfl, hfz, hnd⟩ := hW
  have hA : DataW.TrodAll enc Try.prog W 0 (fun _ => true) true Try.f6.params.toList args.toList ds p := hA0
  rw [Try.params6] at hA hval
  obtain ⟨v0, vs0, d0, ds0, p0, q0, hargs, rfl, rfl, h0, r'0⟩ := trodAll_cons hA
  obtain ⟨v1, vs1, d1, ds1, p1, q1, rfl, rfl, rfl, h1, r'1⟩ := trodAll_cons r'0
  obtain ⟨v2, vs2, d2, ds2, p2, q2, rfl, rfl, rfl, h2, r'2⟩ := trodAll_cons r'1
  obtain ⟨rfl, rfl, rfl⟩ := trodAll_nil r'2
  obtain rfl : args = #[v0, v1, v2] := by cases args; simp_all
  obtain ⟨f0, k0, z0⟩ := open_seg (hval 0 25 v0 rfl rfl) h0
  have fits0 := z0 (fun m hm => by simpa using List.all_eq_true.1 hz0 _ (DataW.weights_mem_each (j := 0) (t := 25) rfl rfl m hm))
  obtain ⟨a1, rfl, rfl, rfl, w1⟩ := open_int Try.underlying5 (hval 1 5 v1 rfl rfl) h1
  obtain ⟨a2, rfl, rfl, rfl, w2⟩ := open_int Try.underlying3 (hval 2 3 v2 rfl rfl) h2
  refine (walk v0 f0 a1 (wf_u8 w1) a2 (wf_i64 w2) W k0 fits0).mono fun e W' ⟨he, hb⟩ => ?_
  subst he
  exact ⟨_, rfl, law_post hW' rfl rfl laid (by kernel_rfl) rfl Try.underlying4 hb⟩

theorem over : Rows.segOptionsRow.holds Try.pinned (OpenSpec.ofChange Rows.segOptionsSpec) :=
  OpenClaim.holds_of_wide 6 Try.f6 rfl rfl rfl rfl rfl rfl rfl ⟨rfl, rfl, rfl, rfl, rfl⟩ rfl rfl rfl rfl rfl (by kernel_rfl) Try.func6 (by kernel_rfl)
    (of_decide_eq_true (by kernel_rfl)) (by unfold Func.isWrapper; first | (rw [if_pos (by decide +kernel)]; kernel_rfl) | (rw [if_neg (by decide +kernel)]; exact ⟨rfl, rfl⟩))
    (fun os started H enc _ => lifted os started H enc)

theorem proved : Rows.SegOptionsSaid := over
#print axioms proved
end Go.Proofs.Ytiaejlbkdgcfiaa.segOptions
