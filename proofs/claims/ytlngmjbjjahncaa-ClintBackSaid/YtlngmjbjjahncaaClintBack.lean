/-
  The statement that what is stored is loaded, and nothing else is another. For every timer, place, size, number, other place. Conditions: none.
-/
import Derived.Test.YtlngmjbjjahncaaRows
import Derived.Test.YtlngmjbjjahncaaClH
import Derived.Test.YtlngmjbjjahncaaLaw
import Derived.Deep.QuietTactic
import Derived.BigQuiet
import Derived.Deep.DeepCutAuto
set_option linter.unusedVariables false
set_option linter.unusedSimpArgs false
namespace Go.Proofs.Ytlngmjbjjahncaa.clintBack
open Go.ChangeShapes Go.WideShapes Go.ChangeAt Go.RowKit

theorem walk_no (T C : Int) (S : Bool) (off size x o : Int) (W : World) (h3 : ∀ W w, Grew W w → Calls Try.prog 8 #[.agg #[.int .u64 T, .int .u64 C, .bool S], .int .u64 off, .int .i64 size, .int .u64 x] w fun e w' => e = .returned (.tuple #[.agg #[.int .u64 T, .int .u64 C, .bool S], .bool false]) ∧ Grew W w') : Calls Try.prog 4 #[.agg #[.int .u64 T, .int .u64 C, .bool S], .int .u64 off, .int .i64 size, .int .u64 x, .int .u64 o] W fun e w' => e = .returned (.bool true) ∧ Below W.heap.size W w' := by
  have H3 := Lib.hid h3
  clear h3
  go_enter Try.func4, Try.ntmps4
  go_upto_region 1 with fail
  have kd : Blk (W.alloc (.cells #[.int .u64 T, .int .u64 C, .bool S] 24)) W.heap.size #[.int .u64 T, .int .u64 C, .bool S] 24 := Blk.new _ _ _ _ rfl
  have g0 : Grew W (W.alloc (.cells #[.int .u64 T, .int .u64 C, .bool S] 24)) := (Grew.refl W).alloc _
  generalize (W.alloc (.cells #[.int .u64 T, .int .u64 C, .bool S] 24)) = w0 at *
  generalize W.heap.size = D at *
  have c0 := (kd).cell 0
  have c1 := (kd).cell 1
  have c2 := (kd).cell 2
  go_upto_region 3 with (go_at_call 8; refine (H3.out w0 _ (Grew.refl w0)).mono ?_; rintro e w1 ⟨rfl, gw1⟩)
  have q1 : Grew w0 (w1.alloc (.cells #[.int .u64 T, .int .u64 C, .bool S] 24)) := gw1.alloc _
  have ke : Blk (w1.alloc (.cells #[.int .u64 T, .int .u64 C, .bool S] 24)) w1.heap.size #[.int .u64 T, .int .u64 C, .bool S] 24 := Blk.new _ _ _ _ rfl
  have g2 : Grew W (w1.alloc (.cells #[.int .u64 T, .int .u64 C, .bool S] 24)) := (g0.trans gw1).alloc _
  generalize (w1.alloc (.cells #[.int .u64 T, .int .u64 C, .bool S] 24)) = w2 at *
  generalize w1.heap.size = E at *
  have kd2 := kd.grew q1
  clear c0 c1 c2
  have c0 := (kd2).cell 0
  have c1 := (kd2).cell 1
  have c2 := (kd2).cell 2
  have d0 := (ke).cell 0
  have d1 := (ke).cell 1
  have d2 := (ke).cell 2
  have hq := cl_eql T C S
  go_wp2_with (go_at_call 14; refine (heads_c (Grew.refl w2)).mono ?_; rintro e w3 ⟨rfl, gw3⟩)
  go_ret
  exact ⟨rfl, g2.trans gw3⟩

set_option maxHeartbeats 4000000 in
theorem walk_with (T C : Int) (S : Bool) (off size x o : Int) (T' C' : Int) (S' : Bool) (y a b : Int) (p : Bool) (hoff : 0 ≤ off ∧ off < 18446744073709551616) (hoo : 0 ≤ o ∧ o < 18446744073709551616) (hx : 0 ≤ x ∧ x < 18446744073709551616) (hsz : size = 4 ∨ size = 8) (h80 : ¬ (off = 0 ∧ size = 8))
    (hy : y = if off = 0 then x % 2 else if size = 4 then x % 4294967296 else x) (W : World)
    (h3 : ∀ W w, Grew W w → Calls Try.prog 8 #[.agg #[.int .u64 T, .int .u64 C, .bool S], .int .u64 off, .int .i64 size, .int .u64 x] w fun e w' => e = .returned (.tuple #[.agg #[.int .u64 T', .int .u64 C', .bool S'], .bool true]) ∧ Grew W w') (h1 : ∀ W w, Grew W w → Calls Try.prog 6 #[.agg #[.int .u64 T', .int .u64 C', .bool S'], .int .u64 off, .int .i64 size] w fun e w' => e = .returned (.tuple #[.int .u64 y, .bool true]) ∧ Grew W w')
    (h2 : ∀ W w, Grew W w → Calls Try.prog 6 #[.agg #[.int .u64 T', .int .u64 C', .bool S'], .int .u64 o, .int .i64 4] w fun e w' => e = .returned (.tuple #[.int .u64 a, .bool p]) ∧ Grew W w') (h4 : ∀ W w, Grew W w → Calls Try.prog 6 #[.agg #[.int .u64 T, .int .u64 C, .bool S], .int .u64 o, .int .i64 4] w fun e w' => e = .returned (.tuple #[.int .u64 b, .bool p]) ∧ Grew W w')
    (hap : (o < off ∧ 4 ≤ off - o ∧ a = b) ∨ (o < off ∧ off - o < 4) ∨ o = off ∨ (off < o ∧ size ≤ o - off ∧ a = b) ∨ (off < o ∧ o - off < size)) :
    Calls Try.prog 4 #[.agg #[.int .u64 T, .int .u64 C, .bool S], .int .u64 off, .int .i64 size, .int .u64 x, .int .u64 o] W fun e w' => e = .returned (.bool true) ∧ Below W.heap.size W w' := by
  have H1 := Lib.hid h1
  have H2 := Lib.hid h2
  have H3 := Lib.hid h3
  have H4 := Lib.hid h4
  clear h1 h2 h3 h4
  obtain ⟨o0, o1⟩ := hoff
  obtain ⟨p0, p1⟩ := hoo
  obtain ⟨x0, x1⟩ := hx
  have ey : (y == y) = true := by simp
  have ep : (p == p) = true := by simp
  have ea : (a == a) = true := by simp
  rcases hsz with rfl | rfl
  · by_cases h : off = 0
    · subst h
      have hv : x % 2 = y := by rw [hy]; simp
      clear hy o0 o1 h80
      go_enter Try.func4, Try.ntmps4
      go_upto_region 1 with fail
      have kd : Blk (W.alloc (.cells #[.int .u64 T, .int .u64 C, .bool S] 24)) W.heap.size #[.int .u64 T, .int .u64 C, .bool S] 24 := Blk.new _ _ _ _ rfl
      have g0 : Grew W (W.alloc (.cells #[.int .u64 T, .int .u64 C, .bool S] 24)) := (Grew.refl W).alloc _
      generalize (W.alloc (.cells #[.int .u64 T, .int .u64 C, .bool S] 24)) = w0 at *
      generalize W.heap.size = D at *
      have c0 := (kd).cell 0
      have c1 := (kd).cell 1
      have c2 := (kd).cell 2
      go_upto_region 4 with (go_at_call 8; refine (H3.out w0 _ (Grew.refl w0)).mono ?_; rintro e w1 ⟨rfl, gw1⟩)
      have q1 : Grew w0 (w1.alloc (.cells #[.int .u64 T', .int .u64 C', .bool S'] 24)) := gw1.alloc _
      have ke : Blk (w1.alloc (.cells #[.int .u64 T', .int .u64 C', .bool S'] 24)) w1.heap.size #[.int .u64 T', .int .u64 C', .bool S'] 24 := Blk.new _ _ _ _ rfl
      have g2 : Grew W (w1.alloc (.cells #[.int .u64 T', .int .u64 C', .bool S'] 24)) := (g0.trans gw1).alloc _
      generalize (w1.alloc (.cells #[.int .u64 T', .int .u64 C', .bool S'] 24)) = w2 at *
      generalize w1.heap.size = E at *
      have kd2 := kd.grew q1
      clear c0 c1 c2
      have c0 := (ke).cell 0
      have c1 := (ke).cell 1
      have c2 := (ke).cell 2
      go_upto_region 5 with (go_at_call 6; refine (H1.out w2 _ (Grew.refl w2)).mono ?_; rintro e w3 ⟨rfl, gw3⟩)
      have kd3 := kd2.grew gw3
      have ke3 := ke.grew gw3
      clear c0 c1 c2
      have c0 := (ke3).cell 0
      have c1 := (ke3).cell 1
      have c2 := (ke3).cell 2
      go_upto_region 11 with (go_at_call 6; refine (H2.out w3 _ (Grew.refl w3)).mono ?_; rintro e w4 ⟨rfl, gw4⟩)
      have kd4 := kd3.grew gw4
      clear c0 c1 c2
      have c0 := (kd4).cell 0
      have c1 := (kd4).cell 1
      have c2 := (kd4).cell 2
      go_upto_region 12 with (go_at_call 6; refine (H4.out w4 _ (Grew.refl w4)).mono ?_; rintro e w5 ⟨rfl, gw5⟩)
      have gg := ((g2.trans gw3).trans gw4).trans gw5
      rcases hap with ⟨r1, r2, r3⟩ | ⟨r1, r2⟩ | r1 | ⟨r1, r2, r3⟩ | ⟨r1, r2⟩
      case' inl => subst r3
      case' inr.inr.inl => subst r1
      case' inr.inr.inr.inl => subst r3
      all_goals
        go_wp2_with (go_at_call 14; refine (heads_c (Grew.refl w5)).mono ?_; rintro e w6 ⟨rfl, gw6⟩)
        all_goals go_ret
        all_goals exact ⟨rfl, gg.trans gw6⟩
    · have hv : x % 4294967296 = y := by rw [hy, if_neg h]; simp
      have hz : (off == 0) = false := by simpa using h
      clear hy h80 h
      go_enter Try.func4, Try.ntmps4
      go_upto_region 1 with fail
      have kd : Blk (W.alloc (.cells #[.int .u64 T, .int .u64 C, .bool S] 24)) W.heap.size #[.int .u64 T, .int .u64 C, .bool S] 24 := Blk.new _ _ _ _ rfl
      have g0 : Grew W (W.alloc (.cells #[.int .u64 T, .int .u64 C, .bool S] 24)) := (Grew.refl W).alloc _
      generalize (W.alloc (.cells #[.int .u64 T, .int .u64 C, .bool S] 24)) = w0 at *
      generalize W.heap.size = D at *
      have c0 := (kd).cell 0
      have c1 := (kd).cell 1
      have c2 := (kd).cell 2
      go_upto_region 4 with (go_at_call 8; refine (H3.out w0 _ (Grew.refl w0)).mono ?_; rintro e w1 ⟨rfl, gw1⟩)
      have q1 : Grew w0 (w1.alloc (.cells #[.int .u64 T', .int .u64 C', .bool S'] 24)) := gw1.alloc _
      have ke : Blk (w1.alloc (.cells #[.int .u64 T', .int .u64 C', .bool S'] 24)) w1.heap.size #[.int .u64 T', .int .u64 C', .bool S'] 24 := Blk.new _ _ _ _ rfl
      have g2 : Grew W (w1.alloc (.cells #[.int .u64 T', .int .u64 C', .bool S'] 24)) := (g0.trans gw1).alloc _
      generalize (w1.alloc (.cells #[.int .u64 T', .int .u64 C', .bool S'] 24)) = w2 at *
      generalize w1.heap.size = E at *
      have kd2 := kd.grew q1
      clear c0 c1 c2
      have c0 := (ke).cell 0
      have c1 := (ke).cell 1
      have c2 := (ke).cell 2
      go_upto_region 5 with (go_at_call 6; refine (H1.out w2 _ (Grew.refl w2)).mono ?_; rintro e w3 ⟨rfl, gw3⟩)
      have kd3 := kd2.grew gw3
      have ke3 := ke.grew gw3
      clear c0 c1 c2
      have c0 := (ke3).cell 0
      have c1 := (ke3).cell 1
      have c2 := (ke3).cell 2
      go_upto_region 11 with (go_at_call 6; refine (H2.out w3 _ (Grew.refl w3)).mono ?_; rintro e w4 ⟨rfl, gw4⟩)
      have kd4 := kd3.grew gw4
      clear c0 c1 c2
      have c0 := (kd4).cell 0
      have c1 := (kd4).cell 1
      have c2 := (kd4).cell 2
      go_upto_region 12 with (go_at_call 6; refine (H4.out w4 _ (Grew.refl w4)).mono ?_; rintro e w5 ⟨rfl, gw5⟩)
      have gg := ((g2.trans gw3).trans gw4).trans gw5
      rcases hap with ⟨r1, r2, r3⟩ | ⟨r1, r2⟩ | r1 | ⟨r1, r2, r3⟩ | ⟨r1, r2⟩
      case' inl => subst r3
      case' inr.inr.inl => subst r1
      case' inr.inr.inr.inl => subst r3
      all_goals
        go_wp2_with (go_at_call 14; refine (heads_c (Grew.refl w5)).mono ?_; rintro e w6 ⟨rfl, gw6⟩)
        all_goals go_ret
        all_goals exact ⟨rfl, gg.trans gw6⟩
  · by_cases h : off = 0
    · exact absurd ⟨h, rfl⟩ h80
    · have hv : x = y := by rw [hy, if_neg h]; simp
      have hz : (off == 0) = false := by simpa using h
      clear hy h80 h
      subst hv
      go_enter Try.func4, Try.ntmps4
      go_upto_region 1 with fail
      have kd : Blk (W.alloc (.cells #[.int .u64 T, .int .u64 C, .bool S] 24)) W.heap.size #[.int .u64 T, .int .u64 C, .bool S] 24 := Blk.new _ _ _ _ rfl
      have g0 : Grew W (W.alloc (.cells #[.int .u64 T, .int .u64 C, .bool S] 24)) := (Grew.refl W).alloc _
      generalize (W.alloc (.cells #[.int .u64 T, .int .u64 C, .bool S] 24)) = w0 at *
      generalize W.heap.size = D at *
      have c0 := (kd).cell 0
      have c1 := (kd).cell 1
      have c2 := (kd).cell 2
      go_upto_region 4 with (go_at_call 8; refine (H3.out w0 _ (Grew.refl w0)).mono ?_; rintro e w1 ⟨rfl, gw1⟩)
      have q1 : Grew w0 (w1.alloc (.cells #[.int .u64 T', .int .u64 C', .bool S'] 24)) := gw1.alloc _
      have ke : Blk (w1.alloc (.cells #[.int .u64 T', .int .u64 C', .bool S'] 24)) w1.heap.size #[.int .u64 T', .int .u64 C', .bool S'] 24 := Blk.new _ _ _ _ rfl
      have g2 : Grew W (w1.alloc (.cells #[.int .u64 T', .int .u64 C', .bool S'] 24)) := (g0.trans gw1).alloc _
      generalize (w1.alloc (.cells #[.int .u64 T', .int .u64 C', .bool S'] 24)) = w2 at *
      generalize w1.heap.size = E at *
      have kd2 := kd.grew q1
      clear c0 c1 c2
      have c0 := (ke).cell 0
      have c1 := (ke).cell 1
      have c2 := (ke).cell 2
      go_upto_region 5 with (go_at_call 6; refine (H1.out w2 _ (Grew.refl w2)).mono ?_; rintro e w3 ⟨rfl, gw3⟩)
      have kd3 := kd2.grew gw3
      have ke3 := ke.grew gw3
      clear c0 c1 c2
      have c0 := (ke3).cell 0
      have c1 := (ke3).cell 1
      have c2 := (ke3).cell 2
      go_upto_region 11 with (go_at_call 6; refine (H2.out w3 _ (Grew.refl w3)).mono ?_; rintro e w4 ⟨rfl, gw4⟩)
      have kd4 := kd3.grew gw4
      clear c0 c1 c2
      have c0 := (kd4).cell 0
      have c1 := (kd4).cell 1
      have c2 := (kd4).cell 2
      go_upto_region 12 with (go_at_call 6; refine (H4.out w4 _ (Grew.refl w4)).mono ?_; rintro e w5 ⟨rfl, gw5⟩)
      have gg := ((g2.trans gw3).trans gw4).trans gw5
      rcases hap with ⟨r1, r2, r3⟩ | ⟨r1, r2⟩ | r1 | ⟨r1, r2, r3⟩ | ⟨r1, r2⟩
      case' inl => subst r3
      case' inr.inr.inl => subst r1
      case' inr.inr.inr.inl => subst r3
      all_goals
        go_wp2_with (go_at_call 14; refine (heads_c (Grew.refl w5)).mono ?_; rintro e w6 ⟨rfl, gw6⟩)
        all_goals go_ret
        all_goals exact ⟨rfl, gg.trans gw6⟩

theorem put_soft {T C : Int} (S : Bool) (x : Int) : putV (regV T C S 0) x 0 1 = x % 2 := by
  rw [show regV T C S 0 = if S = true then 1 else 0 from rfl]
  unfold putV
  cases S <;> simp
/-- What is stored is loaded. -/
theorem back {T C : Int} (hT : 0 ≤ T ∧ T < 18446744073709551616) (hC : 0 ≤ C ∧ C < 18446744073709551616) (S : Bool) {off size p l n : Int} {x : Int} (hx : 0 ≤ x ∧ x < 18446744073709551616) (h : Spot off size p l n) :
    fieldV (regV (withT T (putV (regV T C S p) x l n) p) (withC C (putV (regV T C S p) x l n) p) (withS S (putV (regV T C S p) x l n) p) p) (l + n - 1) l = if off = 0 then x % 2 else if size = 4 then x % 4294967296 else x := by
  rcases h with ⟨rfl, rfl, rfl, rfl, rfl⟩ | ⟨rfl, rfl, rfl, rfl, rfl⟩ | ⟨rfl, rfl, rfl, rfl, rfl⟩ | ⟨rfl, rfl, rfl, rfl, rfl⟩ | ⟨rfl, rfl, rfl, rfl, rfl⟩ | ⟨rfl, rfl, rfl, rfl, rfl⟩ | ⟨rfl, rfl, rfl, rfl, rfl⟩
  · rw [put_soft]
    rcases (show x % 2 = 0 ∨ x % 2 = 1 by omega) with e | e <;> simp [e, regV, withS, fieldV]
  all_goals
    simp [regV, withT, withC, withS, putV, fieldV]
    try omega
/-- What stands apart is loaded as it was. -/
theorem apart {T C : Int} (hT : 0 ≤ T ∧ T < 18446744073709551616) (hC : 0 ≤ C ∧ C < 18446744073709551616) (S : Bool) {off size p l n o q k m : Int} {x : Int} (hx : 0 ≤ x ∧ x < 18446744073709551616) (h : Spot off size p l n) (h' : Spot o 4 q k m) (hap : (o < off ∧ 4 ≤ off - o) ∨ (off < o ∧ size ≤ o - off)) :
    fieldV (regV (withT T (putV (regV T C S p) x l n) p) (withC C (putV (regV T C S p) x l n) p) (withS S (putV (regV T C S p) x l n) p) q) (k + m - 1) k = fieldV (regV T C S q) (k + m - 1) k := by
  rcases h with ⟨rfl, rfl, rfl, rfl, rfl⟩ | ⟨rfl, rfl, rfl, rfl, rfl⟩ | ⟨rfl, rfl, rfl, rfl, rfl⟩ | ⟨rfl, rfl, rfl, rfl, rfl⟩ | ⟨rfl, rfl, rfl, rfl, rfl⟩ | ⟨rfl, rfl, rfl, rfl, rfl⟩ | ⟨rfl, rfl, rfl, rfl, rfl⟩
  all_goals
    rcases h' with ⟨rfl, h4, rfl, rfl, rfl⟩ | ⟨rfl, h4, rfl, rfl, rfl⟩ | ⟨rfl, h4, rfl, rfl, rfl⟩ | ⟨rfl, h4, rfl, rfl, rfl⟩ | ⟨rfl, h4, rfl, rfl, rfl⟩ | ⟨rfl, h4, rfl, rfl, rfl⟩ | ⟨rfl, h4, rfl, rfl, rfl⟩
    all_goals first
      | (exfalso; omega)
      | rfl
      | (simp [regV, withT, withC, withS, putV, fieldV]; done)
      | (simp [regV, withT, withC, withS, putV, fieldV]; omega)
theorem reg_lt {T C : Int} (hT : 0 ≤ T ∧ T < 18446744073709551616) (hC : 0 ≤ C ∧ C < 18446744073709551616) (S : Bool) {off size p l n : Int} {x : Int} (hx : 0 ≤ x ∧ x < 18446744073709551616) (h : Spot off size p l n) :
    (0 ≤ withT T (putV (regV T C S p) x l n) p ∧ withT T (putV (regV T C S p) x l n) p < 18446744073709551616) ∧ (0 ≤ withC C (putV (regV T C S p) x l n) p ∧ withC C (putV (regV T C S p) x l n) p < 18446744073709551616) := by
  have hr := regV_lt hT hC S p
  have hv := putV_lt (regV T C S p) x l n hr.1 hr.2 hx.1 hx.2
  unfold withT withC
  constructor <;> split <;> first | exact hv | exact hT | exact hC

theorem walk (T C : Int) (S : Bool) (hT : 0 ≤ T ∧ T < 18446744073709551616) (hC : 0 ≤ C ∧ C < 18446744073709551616) (off : Int) (ho : 0 ≤ off ∧ off < 18446744073709551616) (size : Int) (_hs : -9223372036854775808 ≤ size ∧ size ≤ 9223372036854775807) (x : Int) (hx : 0 ≤ x ∧ x < 18446744073709551616) (o : Int) (hoo : 0 ≤ o ∧ o < 18446744073709551616) (W : World) :
    Calls Try.prog 4 #[.agg #[.int .u64 T, .int .u64 C, .bool S], .int .u64 off, .int .i64 size, .int .u64 x, .int .u64 o] W fun e w' => e = .returned (.bool true) ∧ Below W.heap.size W w' := by
  rcases spot_or off size with ⟨p, l, n, h⟩ | h
  · have hl := reg_lt hT hC S hx h
    have hb := back hT hC S hx h
    have hsz : size = 4 ∨ size = 8 := by unfold Spot at h; omega
    have h80 : ¬ (off = 0 ∧ size = 8) := by unfold Spot at h; omega
    have hcase : (o < off ∧ 4 ≤ off - o) ∨ (o < off ∧ off - o < 4) ∨ o = off ∨ (off < o ∧ size ≤ o - off) ∨ (off < o ∧ o - off < size) := by omega
    rcases spot_or o 4 with ⟨q, k, m, h'⟩ | h'
    · refine walk_with T C S off size x o _ _ _ _ _ _ true ho hoo hx hsz h80 hb W (fun W w g => store_yes hT hC S x hx h g) (fun W w g => load_yes hl.1 hl.2 _ h g) (fun W w g => load_yes hl.1 hl.2 _ h' g) (fun W w g => load_yes hT hC S h' g) ?_
      have ha := apart hT hC S (x := x) hx h h'
      rcases hcase with r | r | r | r | r
      · exact .inl ⟨r.1, r.2, ha (.inl r)⟩
      · exact .inr (.inl r)
      · exact .inr (.inr (.inl r))
      · exact .inr (.inr (.inr (.inl ⟨r.1, r.2, ha (.inr r)⟩)))
      · exact .inr (.inr (.inr (.inr r)))
    · refine walk_with T C S off size x o _ _ _ _ 0 0 false ho hoo hx hsz h80 hb W (fun W w g => store_yes hT hC S x hx h g) (fun W w g => load_yes hl.1 hl.2 _ h g) (fun W w g => load_no _ _ _ hoo.1 hoo.2 h' g) (fun W w g => load_no T C S hoo.1 hoo.2 h' g) ?_
      rcases hcase with r | r | r | r | r
      · exact .inl ⟨r.1, r.2, rfl⟩
      · exact .inr (.inl r)
      · exact .inr (.inr (.inl r))
      · exact .inr (.inr (.inr (.inl ⟨r.1, r.2, rfl⟩)))
      · exact .inr (.inr (.inr (.inr r)))
  · exact walk_no T C S off size x o W (fun W w g => store_no T C S x ho.1 ho.2 h g)
set_option maxRecDepth 100000 in
theorem lifted (os : Os) (started : os.Started) (H : Type) (enc : TypeId × Value → H) :
    ReturnsInHanded {} Try.checked os 4 .any (Rows.clintBackSpec.pre6 enc Try.prog Try.f4 Rows.clintBackRow.domain false) (Rows.clintBackSpec.post enc Try.prog Try.f4 false true false false) := by
  refine returnsInHanded_of_change (C := Try.checked) own started (by kernel_rfl) Try.func4
    (ChangeSpec.witness6 (enc := enc) (C := Try.checked) false ⟨#[], #[.agg #[.int .u64 0, .int .u64 0, .bool false], .int .u64 0, .int .i64 0, .int .u64 0, .int .u64 0], []⟩ 8 (by kernel_rfl) (by kernel_rfl) (by kernel_rfl) (by kernel_rfl)) ?_
  intro W base args ds gs before hval0 hW _ _
  have hval : ∀ (j : Nat) t v, Try.f4.params[j]? = some t → args[j]? = some v → Value.okWide Try.prog W .any base t v := hval0
  have hW' := hW
  obtain ⟨p, q, hA0, hV, rfl, hfz, hnd⟩ := hW
  have hA : DataW.TrodAll enc Try.prog W 0 (fun _ => true) true Try.f4.params.toList args.toList ds p := hA0
  rw [Try.params4] at hA hval
  obtain ⟨v0, vs0, d0, ds0, p0, q0, hargs, rfl, rfl, h0, r'0⟩ := trodAll_cons hA
  obtain ⟨v1, vs1, d1, ds1, p1, q1, rfl, rfl, rfl, h1, r'1⟩ := trodAll_cons r'0
  obtain ⟨v2, vs2, d2, ds2, p2, q2, rfl, rfl, rfl, h2, r'2⟩ := trodAll_cons r'1
  obtain ⟨v3, vs3, d3, ds3, p3, q3, rfl, rfl, rfl, h3, r'3⟩ := trodAll_cons r'2
  obtain ⟨v4, vs4, d4, ds4, p4, q4, rfl, rfl, rfl, h4, r'4⟩ := trodAll_cons r'3
  obtain ⟨rfl, rfl, rfl⟩ := trodAll_nil r'4
  obtain rfl : args = #[v0, v1, v2, v3, v4] := by cases args; simp_all
  obtain ⟨t0, c0, s0, rfl, wt0, wc0⟩ := open_clint (hval 0 24 v0 rfl rfl) h0
  obtain ⟨a1, rfl, rfl, rfl, w1⟩ := open_int Try.underlying22 (hval 1 22 v1 rfl rfl) h1
  obtain ⟨a2, rfl, rfl, rfl, w2⟩ := open_int Try.underlying3 (hval 2 3 v2 rfl rfl) h2
  obtain ⟨a3, rfl, rfl, rfl, w3⟩ := open_int Try.underlying22 (hval 3 22 v3 rfl rfl) h3
  obtain ⟨a4, rfl, rfl, rfl, w4⟩ := open_int Try.underlying22 (hval 4 22 v4 rfl rfl) h4
  refine (walk t0 c0 s0 wt0 wc0 a1 (wf_u64 w1) a2 (wf_i64 w2) a3 (wf_u64 w3) a4 (wf_u64 w4) W).mono fun e W' ⟨he, hb⟩ => ?_
  subst he
  exact ⟨_, rfl, law_post hW' rfl rfl laid (by kernel_rfl) rfl Try.underlying4 hb⟩

theorem over : Rows.clintBackRow.holds Try.pinned (OpenSpec.ofChange Rows.clintBackSpec) :=
  OpenClaim.holds_of_wide 4 Try.f4 rfl rfl rfl rfl rfl rfl rfl ⟨rfl, rfl, rfl, rfl, rfl⟩ rfl rfl rfl rfl rfl (by kernel_rfl) Try.func4 (by kernel_rfl)
    (of_decide_eq_true (by kernel_rfl)) (by unfold Func.isWrapper; first | (rw [if_pos (by decide +kernel)]; kernel_rfl) | (rw [if_neg (by decide +kernel)]; exact ⟨rfl, rfl⟩))
    (fun os started H enc _ => lifted os started H enc)

theorem proved : Rows.ClintBackSaid := over
#print axioms proved
end Go.Proofs.Ytlngmjbjjahncaa.clintBack
