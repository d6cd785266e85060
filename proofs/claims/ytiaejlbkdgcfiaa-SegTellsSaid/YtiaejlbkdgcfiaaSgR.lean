/-
  The document's own segments: small functions.
-/
import Derived.Test.YtiaejlbkdgcfiaaSgN
import Derived.Test.YtiaejlbkdgcfiaaPutB
set_option maxRecDepth 4000
set_option linter.unusedVariables false
set_option linter.unusedSimpArgs false
namespace Go.Proofs.Ytiaejlbkdgcfiaa
open Go.RowKit

theorem refWord_c (n : Int) (b : Bool) (hb : wordV n = b) (w : World) :
    Calls Try.prog 26 #[.int .i64 n] w fun e w' => e = .returned (.bool b) ∧ w' = w := by
  subst hb
  by_cases h1 : 0 ≤ n
  · cases h2 : decide (n ≤ 65535)
    · rw [show wordV n = false by unfold wordV; simp at h2; exact decide_eq_false (by omega)]
      go_enter Try.func26, Try.ntmps26
      go_wp2_with fail
      go_ret
      exact ⟨rfl, rfl⟩
    · rw [show wordV n = true by unfold wordV; simp at h2; exact decide_eq_true (by omega)]
      go_enter Try.func26, Try.ntmps26
      go_wp2_with fail
      go_ret
      exact ⟨rfl, rfl⟩
  · rw [show wordV n = false by unfold wordV; exact decide_eq_false (by omega)]
    go_enter Try.func26, Try.ntmps26
    go_wp2_with fail
    go_ret
    exact ⟨rfl, rfl⟩
theorem refPut19s_c (x s : Int) (n : Nat) (hs : s = n) (hn : n ≤ 8) (h0 : 0 ≤ x) (h1 : x < 18446744073709551616) (w : World) :
    Calls Try.prog 27 #[.int .u64 x, .int .i64 s] w fun e w' => ∃ a c, e = .returned (.slice a n c) ∧ Row w' w.heap.size (.slice a n c) (putL x n true) ∧ Buf w' (.slice a n c) (putL x n true) ∧ Grew w w' := by
  subst hs
  go_enter Try.func27, Try.ntmps27
  go_wp2_with fail
  refine (refPutB_c x _ n true rfl hn h0 h1 _).mono ?_
  rintro e w1 ⟨u1, rfl, r1, b1, g1⟩
  obtain ⟨a, c, rfl, _, _⟩ := b1.shape
  rw [putB_len] at b1 r1 ⊢
  have B1 := Lib.hid b1
  have R1 := Lib.hid r1
  clear b1 r1
  go_wp2_with fail
  go_ret
  exact ⟨_, _, rfl, R1.out, B1.out, g1⟩
theorem refGetB_c {v : Value} {xs : List Int} (h8 : xs.length ≤ 8) {w : World} (hb : Buf w v xs) :
    Calls Try.prog 52 #[v, .bool true] w fun e w' => e = .returned (.int .u64 (getV xs true)) ∧ Grew w w' :=
  (refGet_c true hb.ok (by omega) w hb.bytes).mono fun _ _ ⟨h1, h2⟩ => ⟨h1, by subst h2; exact Grew.refl _⟩
theorem refGet19s_c {v : Value} {xs : List Int} (h8 : xs.length ≤ 8) {w : World} (hb : Buf w v xs) :
    Calls Try.prog 36 #[v] w fun e w' => e = .returned (.int .u64 (getV xs true)) ∧ Grew w w' := by
  have HB := Lib.hid (refGetB_c h8 hb)
  clear hb
  go_enter Try.func36, Try.ntmps36
  go_wp2_with fail
  refine HB.out.mono ?_
  rintro e w1 ⟨rfl, g1⟩
  go_wp2_with fail
  go_ret
  exact ⟨rfl, g1⟩
theorem refLess_c (a b : Int) (ha : 0 ≤ a ∧ a < 4294967296) (hb : 0 ≤ b ∧ b < 4294967296) (w : World) :
    Calls Try.prog 18 #[.int .u32 a, .int .u32 b] w fun e w' => e = .returned (.bool (lessSG a b)) ∧ w' = w := by
  have hw : IntKind.u32.wrap (b - a) = (b - a) % 4294967296 := by simp [IntKind.wrap, IntKind.bits, IntKind.signed]
  have hd := Int.emod_nonneg (b - a) (show (4294967296 : Int) ≠ 0 by omega)
  unfold lessSG
  by_cases h1 : 1 ≤ (b - a) % 4294967296
  · cases h2 : decide ((b - a) % 4294967296 < 2147483648)
    · rw [show decide (1 ≤ (b - a) % 4294967296 ∧ (b - a) % 4294967296 < 2147483648) = false by simp at h2; exact decide_eq_false (by omega)]
      generalize (b - a) % 4294967296 = z at *
      go_enter Try.func18, Try.ntmps18
      go_wp2_with fail
      go_ret
      exact ⟨rfl, rfl⟩
    · rw [show decide (1 ≤ (b - a) % 4294967296 ∧ (b - a) % 4294967296 < 2147483648) = true by simp at h2; exact decide_eq_true (by omega)]
      generalize (b - a) % 4294967296 = z at *
      go_enter Try.func18, Try.ntmps18
      go_wp2_with fail
      go_ret
      exact ⟨rfl, rfl⟩
  · rw [show decide (1 ≤ (b - a) % 4294967296 ∧ (b - a) % 4294967296 < 2147483648) = false from decide_eq_false (by omega)]
    generalize (b - a) % 4294967296 = z at *
    go_enter Try.func18, Try.ntmps18
    go_wp2_with fail
    go_ret
    exact ⟨rfl, rfl⟩
theorem refLen_c_0 {f : SGR} {p1 : Option Addr} {k1 : Nat} (hl : f.x.length ≤ 140737488355328) (q1 : (bits .and .i64 f.fl 2 != 0) = true) (q2 : (bits .and .i64 f.fl 1 != 0) = true) (w : World) :
    Calls Try.prog 16 #[.agg #[.int .i64 f.s, .int .i64 f.d, .int .u32 f.q, .int .u32 f.a, .int .i64 f.fl, .int .i64 f.wn, .int .i64 f.m, .slice p1 f.x.length k1]] w fun e w' => e = .returned (.int .i64 ((f.x.length : Int) + 1 + 1)) ∧ Grew w w' := by
  go_enter Try.func16, Try.ntmps16
  go_upto_region 1 with fail
  have hB : Blk (w.alloc (.cells #[.int .i64 f.s, .int .i64 f.d, .int .u32 f.q, .int .u32 f.a, .int .i64 f.fl, .int .i64 f.wn, .int .i64 f.m, .slice p1 f.x.length k1] 25)) w.heap.size #[.int .i64 f.s, .int .i64 f.d, .int .u32 f.q, .int .u32 f.a, .int .i64 f.fl, .int .i64 f.wn, .int .i64 f.m, .slice p1 f.x.length k1] 25 := Blk.new _ _ _ _ rfl
  have g0 : Grew w (w.alloc (.cells #[.int .i64 f.s, .int .i64 f.d, .int .u32 f.q, .int .u32 f.a, .int .i64 f.fl, .int .i64 f.wn, .int .i64 f.m, .slice p1 f.x.length k1] 25)) := (Grew.refl _).alloc _
  generalize (w.alloc (.cells #[.int .i64 f.s, .int .i64 f.d, .int .u32 f.q, .int .u32 f.a, .int .i64 f.fl, .int .i64 f.wn, .int .i64 f.m, .slice p1 f.x.length k1] 25)) = w0 at *
  generalize hlB : w.heap.size = B at *
  have y4 := hB.cell 4
  have y7 := hB.cell 7
  go_wp2_with fail
  go_ret
  exact ⟨rfl, g0⟩
theorem refLen_c_1 {f : SGR} {p1 : Option Addr} {k1 : Nat} (hl : f.x.length ≤ 140737488355328) (q1 : (bits .and .i64 f.fl 2 != 0) = true) (q2 : (bits .and .i64 f.fl 1 != 0) = false) (w : World) :
    Calls Try.prog 16 #[.agg #[.int .i64 f.s, .int .i64 f.d, .int .u32 f.q, .int .u32 f.a, .int .i64 f.fl, .int .i64 f.wn, .int .i64 f.m, .slice p1 f.x.length k1]] w fun e w' => e = .returned (.int .i64 ((f.x.length : Int) + 1)) ∧ Grew w w' := by
  go_enter Try.func16, Try.ntmps16
  go_upto_region 1 with fail
  have hB : Blk (w.alloc (.cells #[.int .i64 f.s, .int .i64 f.d, .int .u32 f.q, .int .u32 f.a, .int .i64 f.fl, .int .i64 f.wn, .int .i64 f.m, .slice p1 f.x.length k1] 25)) w.heap.size #[.int .i64 f.s, .int .i64 f.d, .int .u32 f.q, .int .u32 f.a, .int .i64 f.fl, .int .i64 f.wn, .int .i64 f.m, .slice p1 f.x.length k1] 25 := Blk.new _ _ _ _ rfl
  have g0 : Grew w (w.alloc (.cells #[.int .i64 f.s, .int .i64 f.d, .int .u32 f.q, .int .u32 f.a, .int .i64 f.fl, .int .i64 f.wn, .int .i64 f.m, .slice p1 f.x.length k1] 25)) := (Grew.refl _).alloc _
  generalize (w.alloc (.cells #[.int .i64 f.s, .int .i64 f.d, .int .u32 f.q, .int .u32 f.a, .int .i64 f.fl, .int .i64 f.wn, .int .i64 f.m, .slice p1 f.x.length k1] 25)) = w0 at *
  generalize hlB : w.heap.size = B at *
  have y4 := hB.cell 4
  have y7 := hB.cell 7
  go_wp2_with fail
  go_ret
  exact ⟨rfl, g0⟩
theorem refLen_c_2 {f : SGR} {p1 : Option Addr} {k1 : Nat} (hl : f.x.length ≤ 140737488355328) (q1 : (bits .and .i64 f.fl 2 != 0) = false) (q2 : (bits .and .i64 f.fl 1 != 0) = true) (w : World) :
    Calls Try.prog 16 #[.agg #[.int .i64 f.s, .int .i64 f.d, .int .u32 f.q, .int .u32 f.a, .int .i64 f.fl, .int .i64 f.wn, .int .i64 f.m, .slice p1 f.x.length k1]] w fun e w' => e = .returned (.int .i64 ((f.x.length : Int) + 1)) ∧ Grew w w' := by
  go_enter Try.func16, Try.ntmps16
  go_upto_region 1 with fail
  have hB : Blk (w.alloc (.cells #[.int .i64 f.s, .int .i64 f.d, .int .u32 f.q, .int .u32 f.a, .int .i64 f.fl, .int .i64 f.wn, .int .i64 f.m, .slice p1 f.x.length k1] 25)) w.heap.size #[.int .i64 f.s, .int .i64 f.d, .int .u32 f.q, .int .u32 f.a, .int .i64 f.fl, .int .i64 f.wn, .int .i64 f.m, .slice p1 f.x.length k1] 25 := Blk.new _ _ _ _ rfl
  have g0 : Grew w (w.alloc (.cells #[.int .i64 f.s, .int .i64 f.d, .int .u32 f.q, .int .u32 f.a, .int .i64 f.fl, .int .i64 f.wn, .int .i64 f.m, .slice p1 f.x.length k1] 25)) := (Grew.refl _).alloc _
  generalize (w.alloc (.cells #[.int .i64 f.s, .int .i64 f.d, .int .u32 f.q, .int .u32 f.a, .int .i64 f.fl, .int .i64 f.wn, .int .i64 f.m, .slice p1 f.x.length k1] 25)) = w0 at *
  generalize hlB : w.heap.size = B at *
  have y4 := hB.cell 4
  have y7 := hB.cell 7
  go_wp2_with fail
  go_ret
  exact ⟨rfl, g0⟩
theorem refLen_c_3 {f : SGR} {p1 : Option Addr} {k1 : Nat} (hl : f.x.length ≤ 140737488355328) (q1 : (bits .and .i64 f.fl 2 != 0) = false) (q2 : (bits .and .i64 f.fl 1 != 0) = false) (w : World) :
    Calls Try.prog 16 #[.agg #[.int .i64 f.s, .int .i64 f.d, .int .u32 f.q, .int .u32 f.a, .int .i64 f.fl, .int .i64 f.wn, .int .i64 f.m, .slice p1 f.x.length k1]] w fun e w' => e = .returned (.int .i64 ((f.x.length : Int))) ∧ Grew w w' := by
  go_enter Try.func16, Try.ntmps16
  go_upto_region 1 with fail
  have hB : Blk (w.alloc (.cells #[.int .i64 f.s, .int .i64 f.d, .int .u32 f.q, .int .u32 f.a, .int .i64 f.fl, .int .i64 f.wn, .int .i64 f.m, .slice p1 f.x.length k1] 25)) w.heap.size #[.int .i64 f.s, .int .i64 f.d, .int .u32 f.q, .int .u32 f.a, .int .i64 f.fl, .int .i64 f.wn, .int .i64 f.m, .slice p1 f.x.length k1] 25 := Blk.new _ _ _ _ rfl
  have g0 : Grew w (w.alloc (.cells #[.int .i64 f.s, .int .i64 f.d, .int .u32 f.q, .int .u32 f.a, .int .i64 f.fl, .int .i64 f.wn, .int .i64 f.m, .slice p1 f.x.length k1] 25)) := (Grew.refl _).alloc _
  generalize (w.alloc (.cells #[.int .i64 f.s, .int .i64 f.d, .int .u32 f.q, .int .u32 f.a, .int .i64 f.fl, .int .i64 f.wn, .int .i64 f.m, .slice p1 f.x.length k1] 25)) = w0 at *
  generalize hlB : w.heap.size = B at *
  have y4 := hB.cell 4
  have y7 := hB.cell 7
  go_wp2_with fail
  go_ret
  exact ⟨rfl, g0⟩
theorem refLen_c {v : Value} {f : SGR} {w : World} (hl : f.x.length ≤ 140737488355328) (hv : Sg w v f) :
    Calls Try.prog 16 #[v] w fun e w' => e = .returned (.int .i64 (lenSG f)) ∧ Grew w w' := by
  obtain ⟨p1, k1, rfl, b1⟩ := hv.shape
  unfold lenSG
  cases q1 : (bits .and .i64 f.fl 2 != 0) <;> cases q2 : (bits .and .i64 f.fl 1 != 0)
  · have := refLen_c_3 (p1 := p1) (k1 := k1) hl q1 q2 w; simpa using this
  · have := refLen_c_2 (p1 := p1) (k1 := k1) hl q1 q2 w; simpa using this
  · have := refLen_c_1 (p1 := p1) (k1 := k1) hl q1 q2 w; simpa using this
  · have := refLen_c_0 (p1 := p1) (k1 := k1) hl q1 q2 w; simpa using this
end Go.Proofs.Ytiaejlbkdgcfiaa
