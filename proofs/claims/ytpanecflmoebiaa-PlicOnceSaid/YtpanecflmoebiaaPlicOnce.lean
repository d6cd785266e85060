/-
  The statement that what is claimed is not told again to anyone, whatever its line does, until it is given back. For every controller, right or not, every context, lines and other context. Conditions: none.
-/
import Derived.Test.YtpanecflmoebiaaRows
import Derived.Test.YtpanecflmoebiaaPlV
import Derived.Test.YtpanecflmoebiaaLaw
import Derived.Deep.QuietTactic
import Derived.BigQuiet
import Derived.Deep.DeepCutAuto
set_option linter.unusedVariables false
set_option linter.unusedSimpArgs false
namespace Go.Proofs.Ytpanecflmoebiaa.plicOnce
open Go.ChangeShapes Go.WideShapes Go.ChangeAt Go.RowKit

set_option maxRecDepth 100000 in
set_option maxHeartbeats 4000000 in
theorem walk_no (s : PS) (a1 : Option Addr) (a2 : Nat) (a3 : Option Addr) (a4 : Nat) (a5 : Option Addr) (a6 : Nat) (c l o' : Int) (hbad : chk s = false ∨ c < 0 ∨ 1 < c ∨ o' < 0 ∨ 1 < o') (W : World) (hP : Pl W (plV s a1 a2 a3 a4 a5 a6) s)
    (r1 : ∀ w v, Pl w v s → Ans 7 #[v] (.bool (chk s)) w) :
    Calls Try.prog 5 #[plV s a1 a2 a3 a4 a5 a6, .int .i64 c, .int .i64 l, .int .i64 o'] W fun e w' => e = .returned (.bool true) ∧ Below W.heap.size W w' := by
  have R1 := Lib.hid r1
  have HP := Lib.hid hP
  clear r1 hP
  have key : ∀ b1 b2 b3 b4 b5 : Bool, chk s = b1 → decide (c < 0) = b2 → decide (1 < c) = b3 → decide (o' < 0) = b4 → decide (1 < o') = b5 → (b1 = false ∨ b2 = true ∨ b3 = true ∨ b4 = true ∨ b5 = true) → Calls Try.prog 5 #[plV s a1 a2 a3 a4 a5 a6, .int .i64 c, .int .i64 l, .int .i64 o'] W fun e w' => e = .returned (.bool true) ∧ Below W.heap.size W w' := by
    intro b1 b2 b3 b4 b5 e1 e2 e3 e4 e5 hor
    rw [e1] at R1
    clear e1 hbad
    cases b1
    case' true => cases b2
    case' true.false => cases b3
    case' true.false.false => cases b4
    case' true.false.false.false => cases b5
    case' true.false.false.false.false => simp at hor
    all_goals
      clear hor
      go_enter Try.func5, Try.ntmps5
      go_upto_region 1 with fail
      have hA : Blk (W.alloc (.cells #[.slice a1 s.pr.length a2, .int .i64 s.n, .int .i64 s.k, .slice a3 s.en.length a4, .slice a5 s.th.length a6] 24)) W.heap.size #[.slice a1 s.pr.length a2, .int .i64 s.n, .int .i64 s.k, .slice a3 s.en.length a4, .slice a5 s.th.length a6] 24 := Blk.new W _ _ _ rfl
      have g0 : Grew W (W.alloc (.cells #[.slice a1 s.pr.length a2, .int .i64 s.n, .int .i64 s.k, .slice a3 s.en.length a4, .slice a5 s.th.length a6] 24)) := (Grew.refl W).alloc _
      generalize (W.alloc (.cells #[.slice a1 s.pr.length a2, .int .i64 s.n, .int .i64 s.k, .slice a3 s.en.length a4, .slice a5 s.th.length a6] 24)) = w0 at *
      have HP0 := Lib.hid (HP.out.grew g0)
      have D0 := Grew.refl w0
      have y0 := (hA.grew D0).cell 0
      have y1 := (hA.grew D0).cell 1
      have y2 := (hA.grew D0).cell 2
      have y3 := (hA.grew D0).cell 3
      have y4 := (hA.grew D0).cell 4
      go_wp2_with fail
      refine Calls.mono (R1.out _ _ (HP0.out.grew D0)) ?_
      rintro e w1 ⟨rfl, g1⟩
      have D1 := D0.trans g1
      clear y0 y1 y2 y3 y4
      go_wp2_with fail
      refine (heads_c (g0.trans D1)).mono ?_
      rintro e w3 ⟨rfl, g3⟩
      go_wp2_with fail
      go_ret
      exact ⟨rfl, g3⟩
  refine key _ _ _ _ _ rfl rfl rfl rfl rfl ?_
  rcases hbad with h | h | h | h | h
  · exact .inl h
  · exact .inr (.inl (by simpa using h))
  · exact .inr (.inr (.inl (by simpa using h)))
  · exact .inr (.inr (.inr (.inl (by simpa using h))))
  · exact .inr (.inr (.inr (.inr (by simpa using h))))

set_option maxRecDepth 100000 in
set_option maxHeartbeats 4000000 in
theorem walk_none (s : PS) (a1 : Option Addr) (a2 : Nat) (a3 : Option Addr) (a4 : Nat) (a5 : Option Addr) (a6 : Nat) (c f l o' : Int) (hc : (c = 0 ∧ f = 2097156) ∨ (c = 1 ∧ f = 2101252)) (ho0 : decide (o' < 0) = false) (ho1 : decide (1 < o') = false) (W : World) (hP : Pl W (plV s a1 a2 a3 a4 a5 a6) s)
    (r1 : ∀ w v, Pl w v s → Ans 7 #[v] (.bool true) w)
    (rL : ∀ w v, Pl w v s → AnsP 11 #[v, .int .u64 f, .int .i64 4] (fun v' => .tuple #[.int .u64 0, v', .bool true]) s w)
    (rB : ∀ w v, Pl w v s → Ans 16 #[v, .int .i64 c] (.int .i64 0) w)
    : Calls Try.prog 5 #[plV s a1 a2 a3 a4 a5 a6, .int .i64 c, .int .i64 l, .int .i64 o'] W fun e w' => e = .returned (.bool true) ∧ Below W.heap.size W w' := by
  have R1 := Lib.hid r1
  have RL := Lib.hid rL
  have RB := Lib.hid rB
  have HP := Lib.hid hP
  clear r1 rL rB hP
  rcases hc with ⟨rfl, rfl⟩ | ⟨rfl, rfl⟩
  all_goals
    go_enter Try.func5, Try.ntmps5
    go_upto_region 1 with fail
    have hA : Blk (W.alloc (.cells #[.slice a1 s.pr.length a2, .int .i64 s.n, .int .i64 s.k, .slice a3 s.en.length a4, .slice a5 s.th.length a6] 24)) W.heap.size #[.slice a1 s.pr.length a2, .int .i64 s.n, .int .i64 s.k, .slice a3 s.en.length a4, .slice a5 s.th.length a6] 24 := Blk.new W _ _ _ rfl
    have g0 : Grew W (W.alloc (.cells #[.slice a1 s.pr.length a2, .int .i64 s.n, .int .i64 s.k, .slice a3 s.en.length a4, .slice a5 s.th.length a6] 24)) := (Grew.refl W).alloc _
    generalize (W.alloc (.cells #[.slice a1 s.pr.length a2, .int .i64 s.n, .int .i64 s.k, .slice a3 s.en.length a4, .slice a5 s.th.length a6] 24)) = w0 at *
    have HP0 := Lib.hid (HP.out.grew g0)
    have D0 := Grew.refl w0
    have y0 := (hA.grew D0).cell 0
    have y1 := (hA.grew D0).cell 1
    have y2 := (hA.grew D0).cell 2
    have y3 := (hA.grew D0).cell 3
    have y4 := (hA.grew D0).cell 4
    go_wp2_with fail
    refine Calls.mono (R1.out _ _ (HP0.out.grew D0)) ?_
    rintro e w1 ⟨rfl, g1⟩
    have D1 := D0.trans g1
    clear y0 y1 y2 y3 y4
    have y0 := (hA.grew D1).cell 0
    have y1 := (hA.grew D1).cell 1
    have y2 := (hA.grew D1).cell 2
    have y3 := (hA.grew D1).cell 3
    have y4 := (hA.grew D1).cell 4
    go_wp2_with fail
    refine Calls.mono (RL.out _ _ (HP0.out.grew D1)) ?_
    rintro e w2 ⟨b1, b2, b3, b4, b5, b6, rfl, hb, g2⟩
    have D2 := D1.trans g2
    clear y0 y1 y2 y3 y4
    go_upto_region 4 with fail
    have kb : Blk (w2.alloc (.cells #[.slice b1 s.pr.length b2, .int .i64 s.n, .int .i64 s.k, .slice b3 s.en.length b4, .slice b5 s.th.length b6] 24)) w2.heap.size #[.slice b1 s.pr.length b2, .int .i64 s.n, .int .i64 s.k, .slice b3 s.en.length b4, .slice b5 s.th.length b6] 24 := Blk.new _ _ _ _ rfl
    have D3 : Grew w0 (w2.alloc (.cells #[.slice b1 s.pr.length b2, .int .i64 s.n, .int .i64 s.k, .slice b3 s.en.length b4, .slice b5 s.th.length b6] 24)) := D2.alloc _
    have Pb := Lib.hid (hb.out.grew ((Grew.refl w2).alloc (.cells #[.slice b1 s.pr.length b2, .int .i64 s.n, .int .i64 s.k, .slice b3 s.en.length b4, .slice b5 s.th.length b6] 24)))
    have Sb : Grew w2 (w2.alloc (.cells #[.slice b1 s.pr.length b2, .int .i64 s.n, .int .i64 s.k, .slice b3 s.en.length b4, .slice b5 s.th.length b6] 24)) := (Grew.refl w2).alloc _
    have lob : w0.heap.size ≤ w2.heap.size := D2.size
    generalize (w2.alloc (.cells #[.slice b1 s.pr.length b2, .int .i64 s.n, .int .i64 s.k, .slice b3 s.en.length b4, .slice b5 s.th.length b6] 24)) = w3 at *
    generalize w2.heap.size = Bb at *
    have y0 := (hA.grew D3).cell 0
    have y1 := (hA.grew D3).cell 1
    have y2 := (hA.grew D3).cell 2
    have y3 := (hA.grew D3).cell 3
    have y4 := (hA.grew D3).cell 4
    go_wp2_with fail
    refine Calls.mono (RB.out _ _ (HP0.out.grew D3)) ?_
    rintro e w4 ⟨rfl, g4⟩
    have D4 := D3.trans g4
    clear y0 y1 y2 y3 y4
    have T4 := g4
    have kb4 := kb.grew T4
    have Pb4 := Lib.hid (Pb.out.grew T4)
    clear kb Pb T4
    have y0 := kb4.cell 0
    have y1 := kb4.cell 1
    have y2 := kb4.cell 2
    have y3 := kb4.cell 3
    have y4 := kb4.cell 4
    have z0 := (hA.grew D4).cell 0
    have z1 := (hA.grew D4).cell 1
    have z2 := (hA.grew D4).cell 2
    have z3 := (hA.grew D4).cell 3
    have z4 := (hA.grew D4).cell 4
    go_wp2_with fail
    refine Calls.mono (Same_c Pb4.out (HP0.out.grew D4) (Grew.refl w4)) ?_
    rintro e w5 ⟨rfl, g5⟩
    have D5 := D4.trans g5
    go_wp2_with fail
    refine (heads_c (g0.trans D5)).mono ?_
    rintro e w6 ⟨rfl, g6⟩
    go_wp2_with fail
    go_ret
    exact ⟨rfl, g6⟩

set_option maxRecDepth 100000 in
set_option maxHeartbeats 4000000 in
theorem walk_some (s sQ sR sT sU : PS) (a1 : Option Addr) (a2 : Nat) (a3 : Option Addr) (a4 : Nat) (a5 : Option Addr) (a6 : Nat) (c f l o' b o m u : Int) (hc : (c = 0 ∧ f = 2097156) ∨ (c = 1 ∧ f = 2101252)) (hb : (b = 1 ∧ o = 2) ∨ (b = 2 ∧ o = 4)) (hm : m ≠ b) (hu : (u != 0) = true) (hn : bits .and .i64 sU.n o = o) (ho0 : decide (o' < 0) = false) (ho1 : decide (1 < o') = false) (W : World) (hP : Pl W (plV s a1 a2 a3 a4 a5 a6) s)
    (r1 : ∀ w v, Pl w v s → Ans 7 #[v] (.bool true) w)
    (rL : ∀ w v, Pl w v s → AnsP 11 #[v, .int .u64 f, .int .i64 4] (fun v' => .tuple #[.int .u64 b, v', .bool true]) sQ w)
    (rB : ∀ w v, Pl w v s → Ans 16 #[v, .int .i64 c] (.int .i64 b) w)
    (rT : ∀ w v, Pl w v sQ → AnsR 9 #[v, .int .i64 l] (fun v' => v') sR w)
    (rO : ∀ w v, Pl w v sR → Ans 16 #[v, .int .i64 o'] (.int .i64 m) w)
    (r2 : ∀ w v, Pl w v sR → Ans 7 #[v] (.bool true) w)
    (rS : ∀ w v, Pl w v sR → AnsP 12 #[v, .int .u64 f, .int .i64 4, .int .u64 b] (fun v' => .tuple #[v', .bool true]) sT w)
    (rV : ∀ w v, Pl w v sT → AnsR 9 #[v, .int .i64 o] (fun v' => v') sU w)
    (rU : ∀ w v, Pl w v sU → Ans 16 #[v, .int .i64 c] (.int .i64 u) w)
    : Calls Try.prog 5 #[plV s a1 a2 a3 a4 a5 a6, .int .i64 c, .int .i64 l, .int .i64 o'] W fun e w' => e = .returned (.bool true) ∧ Below W.heap.size W w' := by
  have R1 := Lib.hid r1
  have RL := Lib.hid rL
  have RB := Lib.hid rB
  have RT := Lib.hid rT
  have RO := Lib.hid rO
  have R2 := Lib.hid r2
  have RS := Lib.hid rS
  have RV := Lib.hid rV
  have RU := Lib.hid rU
  have HP := Lib.hid hP
  clear r1 rL rB rT rO r2 rS rV rU hP
  have HM := Lib.hid hm
  have HU := Lib.hid hu
  have HN := Lib.hid hn
  clear hm hu hn
  rcases hc with ⟨rfl, rfl⟩ | ⟨rfl, rfl⟩ <;> rcases hb with ⟨rfl, rfl⟩ | ⟨rfl, rfl⟩
  all_goals
    go_enter Try.func5, Try.ntmps5
    go_upto_region 1 with fail
    have hA : Blk (W.alloc (.cells #[.slice a1 s.pr.length a2, .int .i64 s.n, .int .i64 s.k, .slice a3 s.en.length a4, .slice a5 s.th.length a6] 24)) W.heap.size #[.slice a1 s.pr.length a2, .int .i64 s.n, .int .i64 s.k, .slice a3 s.en.length a4, .slice a5 s.th.length a6] 24 := Blk.new W _ _ _ rfl
    have g0 : Grew W (W.alloc (.cells #[.slice a1 s.pr.length a2, .int .i64 s.n, .int .i64 s.k, .slice a3 s.en.length a4, .slice a5 s.th.length a6] 24)) := (Grew.refl W).alloc _
    generalize (W.alloc (.cells #[.slice a1 s.pr.length a2, .int .i64 s.n, .int .i64 s.k, .slice a3 s.en.length a4, .slice a5 s.th.length a6] 24)) = w0 at *
    have HP0 := Lib.hid (HP.out.grew g0)
    have D0 := Grew.refl w0
    have y0 := (hA.grew D0).cell 0
    have y1 := (hA.grew D0).cell 1
    have y2 := (hA.grew D0).cell 2
    have y3 := (hA.grew D0).cell 3
    have y4 := (hA.grew D0).cell 4
    go_wp2_with fail
    refine Calls.mono (R1.out _ _ (HP0.out.grew D0)) ?_
    rintro e w1 ⟨rfl, g1⟩
    have D1 := D0.trans g1
    clear y0 y1 y2 y3 y4
    have y0 := (hA.grew D1).cell 0
    have y1 := (hA.grew D1).cell 1
    have y2 := (hA.grew D1).cell 2
    have y3 := (hA.grew D1).cell 3
    have y4 := (hA.grew D1).cell 4
    go_wp2_with fail
    refine Calls.mono (RL.out _ _ (HP0.out.grew D1)) ?_
    rintro e w2 ⟨b1, b2, b3, b4, b5, b6, rfl, hb, g2⟩
    have D2 := D1.trans g2
    clear y0 y1 y2 y3 y4
    go_upto_region 4 with fail
    have kb : Blk (w2.alloc (.cells #[.slice b1 sQ.pr.length b2, .int .i64 sQ.n, .int .i64 sQ.k, .slice b3 sQ.en.length b4, .slice b5 sQ.th.length b6] 24)) w2.heap.size #[.slice b1 sQ.pr.length b2, .int .i64 sQ.n, .int .i64 sQ.k, .slice b3 sQ.en.length b4, .slice b5 sQ.th.length b6] 24 := Blk.new _ _ _ _ rfl
    have D3 : Grew w0 (w2.alloc (.cells #[.slice b1 sQ.pr.length b2, .int .i64 sQ.n, .int .i64 sQ.k, .slice b3 sQ.en.length b4, .slice b5 sQ.th.length b6] 24)) := D2.alloc _
    have Pb := Lib.hid (hb.out.grew ((Grew.refl w2).alloc (.cells #[.slice b1 sQ.pr.length b2, .int .i64 sQ.n, .int .i64 sQ.k, .slice b3 sQ.en.length b4, .slice b5 sQ.th.length b6] 24)))
    have Sb : Grew w2 (w2.alloc (.cells #[.slice b1 sQ.pr.length b2, .int .i64 sQ.n, .int .i64 sQ.k, .slice b3 sQ.en.length b4, .slice b5 sQ.th.length b6] 24)) := (Grew.refl w2).alloc _
    have lob : w0.heap.size ≤ w2.heap.size := D2.size
    generalize (w2.alloc (.cells #[.slice b1 sQ.pr.length b2, .int .i64 sQ.n, .int .i64 sQ.k, .slice b3 sQ.en.length b4, .slice b5 sQ.th.length b6] 24)) = w3 at *
    generalize w2.heap.size = Bb at *
    have y0 := (hA.grew D3).cell 0
    have y1 := (hA.grew D3).cell 1
    have y2 := (hA.grew D3).cell 2
    have y3 := (hA.grew D3).cell 3
    have y4 := (hA.grew D3).cell 4
    go_wp2_with fail
    refine Calls.mono (RB.out _ _ (HP0.out.grew D3)) ?_
    rintro e w4 ⟨rfl, g4⟩
    have D4 := D3.trans g4
    clear y0 y1 y2 y3 y4
    have kb4 := kb.grew g4
    have Pb4 := Lib.hid (Pb.out.grew g4)
    clear kb Pb
    have y0 := kb4.cell 0
    have y1 := kb4.cell 1
    have y2 := kb4.cell 2
    have y3 := kb4.cell 3
    have y4 := kb4.cell 4
    go_wp2_with fail
    refine Calls.mono (RT.out _ _ Pb4.out) ?_
    rintro e w5 ⟨d1, d2, d3, d4, d5, d6, rfl, hd, g5⟩
    clear y0 y1 y2 y3 y4
    have kd' := kb4.grew g5
    have ltd := kb4.lt
    have D5 := D4.trans g5
    have y0 := kd'.cell 0
    have y1 := kd'.cell 1
    have y2 := kd'.cell 2
    have y3 := kd'.cell 3
    have y4 := kd'.cell 4
    have f0 := kd'.free 0
    have f1 := kd'.free 1
    have f2 := kd'.free 2
    have f3 := kd'.free 3
    have f4 := kd'.free 4
    go_upto_region 9 with fail
    clear y0 y1 y2 y3 y4 f0 f1 f2 f3 f4
    have kd := (((((kd'.set (o := 0) (.slice d1 sR.pr.length d2)).set (o := 1) (.int .i64 sR.n)).set (o := 2) (.int .i64 sR.k)).set (o := 3) (.slice d3 sR.en.length d4)).set (o := 4) (.slice d5 sR.th.length d6))
    have Jd := (((((hd.out.set (c := Bb) ltd (o := 0) (.slice d1 sR.pr.length d2)).set (c := Bb) ltd (o := 1) (.int .i64 sR.n)).set (c := Bb) ltd (o := 2) (.int .i64 sR.k)).set (c := Bb) ltd (o := 3) (.slice d3 sR.en.length d4)).set (c := Bb) ltd (o := 4) (.slice d5 sR.th.length d6))
    have D6 := (((((D5.setCell (b := Bb) (o := 0) lob (.slice d1 sR.pr.length d2)).setCell (b := Bb) (o := 1) lob (.int .i64 sR.n)).setCell (b := Bb) (o := 2) lob (.int .i64 sR.k)).setCell (b := Bb) (o := 3) lob (.slice d3 sR.en.length d4)).setCell (b := Bb) (o := 4) lob (.slice d5 sR.th.length d6))
    have Pd := Lib.hid Jd.pl
    clear hd Jd kd' D5
    generalize (((((w5.setCell ⟨Bb, 0, none⟩ (.slice d1 sR.pr.length d2)).setCell ⟨Bb, 1, none⟩ (.int .i64 sR.n)).setCell ⟨Bb, 2, none⟩ (.int .i64 sR.k)).setCell ⟨Bb, 3, none⟩ (.slice d3 sR.en.length d4)).setCell ⟨Bb, 4, none⟩ (.slice d5 sR.th.length d6)) = w6 at *
    replace kd : Blk w6 Bb #[.slice d1 sR.pr.length d2, .int .i64 sR.n, .int .i64 sR.k, .slice d3 sR.en.length d4, .slice d5 sR.th.length d6] 24 := kd
    have hm := HM.out
    have y0 := kd.cell 0
    have y1 := kd.cell 1
    have y2 := kd.cell 2
    have y3 := kd.cell 3
    have y4 := kd.cell 4
    go_wp2_with fail
    refine Calls.mono (RO.out _ _ Pd.out) ?_
    rintro e w7 ⟨rfl, g7⟩
    have D7 := D6.trans g7
    clear y0 y1 y2 y3 y4
    have y0 := (kd.grew g7).cell 0
    have y1 := (kd.grew g7).cell 1
    have y2 := (kd.grew g7).cell 2
    have y3 := (kd.grew g7).cell 3
    have y4 := (kd.grew g7).cell 4
    go_wp2_with fail
    refine Calls.mono (R2.out _ _ (Pd.out.grew g7)) ?_
    rintro e w8 ⟨rfl, g8⟩
    have D8 := D7.trans g8
    clear hm
    clear y0 y1 y2 y3 y4
    have y0 := ((kd.grew g7).grew g8).cell 0
    have y1 := ((kd.grew g7).grew g8).cell 1
    have y2 := ((kd.grew g7).grew g8).cell 2
    have y3 := ((kd.grew g7).grew g8).cell 3
    have y4 := ((kd.grew g7).grew g8).cell 4
    go_wp2_with fail
    refine Calls.mono (RS.out _ _ ((Pd.out.grew g7).grew g8)) ?_
    rintro e w9 ⟨e1, e2, e3, e4, e5, e6, rfl, he, g9⟩
    have D9 := D8.trans g9
    clear y0 y1 y2 y3 y4
    go_upto_region 12 with fail
    have ke : Blk (w9.alloc (.cells #[.slice e1 sT.pr.length e2, .int .i64 sT.n, .int .i64 sT.k, .slice e3 sT.en.length e4, .slice e5 sT.th.length e6] 24)) w9.heap.size #[.slice e1 sT.pr.length e2, .int .i64 sT.n, .int .i64 sT.k, .slice e3 sT.en.length e4, .slice e5 sT.th.length e6] 24 := Blk.new _ _ _ _ rfl
    have D10 : Grew w0 (w9.alloc (.cells #[.slice e1 sT.pr.length e2, .int .i64 sT.n, .int .i64 sT.k, .slice e3 sT.en.length e4, .slice e5 sT.th.length e6] 24)) := D9.alloc _
    have Pe := Lib.hid (he.out.grew ((Grew.refl w9).alloc (.cells #[.slice e1 sT.pr.length e2, .int .i64 sT.n, .int .i64 sT.k, .slice e3 sT.en.length e4, .slice e5 sT.th.length e6] 24)))
    have Se : Grew w9 (w9.alloc (.cells #[.slice e1 sT.pr.length e2, .int .i64 sT.n, .int .i64 sT.k, .slice e3 sT.en.length e4, .slice e5 sT.th.length e6] 24)) := (Grew.refl w9).alloc _
    have loe : w0.heap.size ≤ w9.heap.size := D9.size
    generalize (w9.alloc (.cells #[.slice e1 sT.pr.length e2, .int .i64 sT.n, .int .i64 sT.k, .slice e3 sT.en.length e4, .slice e5 sT.th.length e6] 24)) = w10 at *
    generalize w9.heap.size = Be at *
    have y0 := ke.cell 0
    have y1 := ke.cell 1
    have y2 := ke.cell 2
    have y3 := ke.cell 3
    have y4 := ke.cell 4
    go_wp2_with fail
    refine Calls.mono (RV.out _ _ Pe.out) ?_
    rintro e w11 ⟨m1, m2, m3, m4, m5, m6, rfl, hm, g11⟩
    clear y0 y1 y2 y3 y4
    have kx' := ke.grew g11
    have ltm := ke.lt
    have D11 := D10.trans g11
    have y0 := kx'.cell 0
    have y1 := kx'.cell 1
    have y2 := kx'.cell 2
    have y3 := kx'.cell 3
    have y4 := kx'.cell 4
    have f0 := kx'.free 0
    have f1 := kx'.free 1
    have f2 := kx'.free 2
    have f3 := kx'.free 3
    have f4 := kx'.free 4
    go_upto_region 13 with fail
    clear y0 y1 y2 y3 y4 f0 f1 f2 f3 f4
    have kx := (((((kx'.set (o := 0) (.slice m1 sU.pr.length m2)).set (o := 1) (.int .i64 sU.n)).set (o := 2) (.int .i64 sU.k)).set (o := 3) (.slice m3 sU.en.length m4)).set (o := 4) (.slice m5 sU.th.length m6))
    have Jx := (((((hm.out.set (c := Be) ltm (o := 0) (.slice m1 sU.pr.length m2)).set (c := Be) ltm (o := 1) (.int .i64 sU.n)).set (c := Be) ltm (o := 2) (.int .i64 sU.k)).set (c := Be) ltm (o := 3) (.slice m3 sU.en.length m4)).set (c := Be) ltm (o := 4) (.slice m5 sU.th.length m6))
    have D12 := (((((D11.setCell (b := Be) (o := 0) loe (.slice m1 sU.pr.length m2)).setCell (b := Be) (o := 1) loe (.int .i64 sU.n)).setCell (b := Be) (o := 2) loe (.int .i64 sU.k)).setCell (b := Be) (o := 3) loe (.slice m3 sU.en.length m4)).setCell (b := Be) (o := 4) loe (.slice m5 sU.th.length m6))
    have Px := Lib.hid Jx.pl
    clear hm Jx kx' D11
    generalize (((((w11.setCell ⟨Be, 0, none⟩ (.slice m1 sU.pr.length m2)).setCell ⟨Be, 1, none⟩ (.int .i64 sU.n)).setCell ⟨Be, 2, none⟩ (.int .i64 sU.k)).setCell ⟨Be, 3, none⟩ (.slice m3 sU.en.length m4)).setCell ⟨Be, 4, none⟩ (.slice m5 sU.th.length m6)) = w12 at *
    replace kx : Blk w12 Be #[.slice m1 sU.pr.length m2, .int .i64 sU.n, .int .i64 sU.k, .slice m3 sU.en.length m4, .slice m5 sU.th.length m6] 24 := kx
    have hu := HU.out
    have hn := HN.out
    have y0 := kx.cell 0
    have y1 := kx.cell 1
    have y2 := kx.cell 2
    have y3 := kx.cell 3
    have y4 := kx.cell 4
    go_wp2_with fail
    refine Calls.mono (RU.out _ _ Px.out) ?_
    rintro e w13 ⟨rfl, g13⟩
    have D13 := D12.trans g13
    clear y0 y1 y2 y3 y4
    have y0 := (kx.grew g13).cell 0
    have y1 := (kx.grew g13).cell 1
    have y2 := (kx.grew g13).cell 2
    have y3 := (kx.grew g13).cell 3
    have y4 := (kx.grew g13).cell 4
    go_wp2_with fail
    refine (heads_c (g0.trans D13)).mono ?_
    rintro e w14 ⟨rfl, g14⟩
    go_wp2_with fail
    go_ret
    exact ⟨rfl, g14⟩

theorem walk (s : PS) (a1 : Option Addr) (a2 : Nat) (a3 : Option Addr) (a4 : Nat) (a5 : Option Addr) (a6 : Nat) (c : Int) (_hc : -9223372036854775808 ≤ c ∧ c ≤ 9223372036854775807) (l : Int) (_hl : -9223372036854775808 ≤ l ∧ l ≤ 9223372036854775807) (o' : Int) (_ho : -9223372036854775808 ≤ o' ∧ o' ≤ 9223372036854775807) (W : World) (hP : Pl W (plV s a1 a2 a3 a4 a5 a6) s) (hf : s.Fits) :
    Calls Try.prog 5 #[plV s a1 a2 a3 a4 a5 a6, .int .i64 c, .int .i64 l, .int .i64 o'] W fun e w' => e = .returned (.bool true) ∧ Below W.heap.size W w' := by
  by_cases h : chk s = false ∨ c < 0 ∨ 1 < c ∨ o' < 0 ∨ 1 < o'
  · exact walk_no s a1 a2 a3 a4 a5 a6 c l o' h W hP (check_a rfl)
  · have hc : chk s = true := by
      cases hc : chk s
      · exact absurd (.inl hc) h
      · rfl
    have ho0 : decide (o' < 0) = false := by simp; omega
    have ho1 : decide (1 < o') = false := by simp; omega
    obtain ⟨x, hx, rfl⟩ := hP.vs hc
    have hcc : c = 0 ∨ c = 1 := by omega
    have hcf : (c = 0 ∧ place c = 2097156) ∨ (c = 1 ∧ place c = 2101252) := by unfold place; omega
    have hr := place_reg hcc
    obtain ⟨q1, q2, q3⟩ := ctx_at hcc x
    have hbd : badB x.ps (place c) 4 = false := by unfold badB; rw [hc, hr]; rcases hcc with rfl | rfl <;> rfl
    have hld : ldY x.ps (place c) 4 = x.best c := by unfold ldY; rw [hbd, hr]; exact q1
    have hls : ldS x.ps (place c) 4 = (x.claim (x.best c)).ps := by unfold ldS; rw [hbd, hr]; exact congrArg VS.ps q2
    have hbs : bestS x.ps c = x.best c := by unfold bestS; rw [if_pos ⟨hc, hcc⟩]; rfl
    by_cases hz : x.best c = 0
    · rw [hz] at hld hls hbs
      rw [claim_0 hx] at hls
      exact walk_none _ a1 a2 a3 a4 a5 a6 c _ l o' hcf ho0 ho1 W hP (check_a hc) (load_a hf hld hls (by rw [hbd]; rfl)) (best_a hbs)
    · obtain ⟨b, o, hb, hbo⟩ : ∃ b o : Int, x.best c = b ∧ ((b = 1 ∧ o = 2) ∨ (b = 2 ∧ o = 4)) := by
        rcases x.best_in c with h1 | h1 | h1
        · exact absurd h1 hz
        · exact ⟨1, 2, h1, .inl ⟨rfl, rfl⟩⟩
        · exact ⟨2, 4, h1, .inr ⟨rfl, rfl⟩⟩
      rw [hb] at hld hls hbs
      have hq := hx.claim b
      have hqs := hq.set l
      have hqb := hqs.back c b
      have hun := back_again (x := x) (c := c) (b := b) (o := o) hx hbo l hb
      have hna := not_again (x := x) (c' := o') (b := b) (o := o) hx hbo l
      have e1 : setS (x.claim b).ps l = ((x.claim b).set l).ps := by unfold setS; rw [if_pos (chk_mk hq)]; rfl
      have hbd2 : badB ((x.claim b).set l).ps (place c) 4 = false := by unfold badB; rw [chk_mk hqs, hr]; rcases hcc with rfl | rfl <;> rfl
      have e2 : stS ((x.claim b).set l).ps (place c) 4 b = (((x.claim b).set l).back c b).ps := by
        unfold stS
        rw [hbd2, hr, show b % 4294967296 = b by omega]
        exact congrArg VS.ps ((ctx_at hcc ((x.claim b).set l)).2.2 b)
      have e3 : setS (((x.claim b).set l).back c b).ps o = ((((x.claim b).set l).back c b).set o).ps := by unfold setS; rw [if_pos (chk_mk hqb)]; rfl
      have e4 : bestS ((((x.claim b).set l).back c b).set o).ps c = ((((x.claim b).set l).back c b).set o).best c := by unfold bestS; rw [if_pos ⟨chk_mk (hqb.set o), hcc⟩]; rfl
      have e5 : bestS ((x.claim b).set l).ps o' = ((x.claim b).set l).best o' := by unfold bestS; rw [if_pos ⟨chk_mk hqs, by omega⟩]; rfl
      exact walk_some _ (x.claim b).ps ((x.claim b).set l).ps (((x.claim b).set l).back c b).ps ((((x.claim b).set l).back c b).set o).ps a1 a2 a3 a4 a5 a6 c _ l o' b o _ _ hcf hbo hna (by simpa using hun.1) hun.2 ho0 ho1 W hP
        (check_a hc) (load_a hf hld hls (by rw [hbd]; rfl)) (best_a hbs) (set_r (VS.fits _) e1) (best_a e5) (check_a (chk_mk hqs)) (store_a (VS.fits _) (by omega) (by omega) e2 (by rw [hbd2]; rfl)) (set_r (VS.fits _) e3) (best_a e4)
set_option maxRecDepth 100000 in
theorem lifted (os : Os) (started : os.Started) (H : Type) (enc : TypeId × Value → H) :
    ReturnsInHanded {} Try.checked os 5 .any (Rows.plicOnceSpec.pre6 enc Try.prog Try.f5 Rows.plicOnceRow.domain false) (Rows.plicOnceSpec.post enc Try.prog Try.f5 false true false false) := by
  refine returnsInHanded_of_change_sized (C := Try.checked) own started (by kernel_rfl) Try.func5
    (ChangeSpec.witness6 (enc := enc) (C := Try.checked) false ⟨#[], #[.agg #[.slice none 0 0, .int .i64 0, .int .i64 0, .slice none 0 0, .slice none 0 0], .int .i64 0, .int .i64 0, .int .i64 0], []⟩ 8 (by kernel_rfl) (by kernel_rfl) (by kernel_rfl) (by kernel_rfl)) ?_
  intro W base args ds gs before hval0 hW _ hz0 _
  have hval : ∀ (j : Nat) t v, Try.f5.params[j]? = some t → args[j]? = some v → Value.okWide Try.prog W .any base t v := hval0
  have hW' := hW
  obtain ⟨p, q, hA0, hV, rfl, hfz, hnd⟩ := hW
  have hA : DataW.TrodAll enc Try.prog W 0 (fun _ => true) true Try.f5.params.toList args.toList ds p := hA0
  rw [Try.params5] at hA hval
  obtain ⟨v0, vs0, d0, ds0, p0, q0, hargs, rfl, rfl, h0, r'0⟩ := trodAll_cons hA
  obtain ⟨v1, vs1, d1, ds1, p1, q1, rfl, rfl, rfl, h1, r'1⟩ := trodAll_cons r'0
  obtain ⟨v2, vs2, d2, ds2, p2, q2, rfl, rfl, rfl, h2, r'2⟩ := trodAll_cons r'1
  obtain ⟨v3, vs3, d3, ds3, p3, q3, rfl, rfl, rfl, h3, r'3⟩ := trodAll_cons r'2
  obtain ⟨rfl, rfl, rfl⟩ := trodAll_nil r'3
  obtain rfl : args = #[v0, v1, v2, v3] := by cases args; simp_all
  obtain ⟨s0, pa0, pc0, qa0, qc0, ra0, rc0, rfl, k0, f0⟩ := open_plic (hval 0 24 v0 rfl rfl) h0
  have fits0 := f0 (fun m hm => by simpa using List.all_eq_true.1 hz0 _ (DataW.weights_mem_each (j := 0) (t := 24) rfl rfl m hm))
  obtain ⟨a1, rfl, rfl, rfl, w1⟩ := open_int Try.underlying3 (hval 1 3 v1 rfl rfl) h1
  obtain ⟨a2, rfl, rfl, rfl, w2⟩ := open_int Try.underlying3 (hval 2 3 v2 rfl rfl) h2
  obtain ⟨a3, rfl, rfl, rfl, w3⟩ := open_int Try.underlying3 (hval 3 3 v3 rfl rfl) h3
  refine (walk s0 pa0 pc0 qa0 qc0 ra0 rc0 a1 (wf_i64 w1) a2 (wf_i64 w2) a3 (wf_i64 w3) W k0 fits0).mono fun e W' ⟨he, hb⟩ => ?_
  subst he
  exact ⟨_, rfl, law_post hW' rfl rfl laid (by kernel_rfl) rfl Try.underlying4 hb⟩

theorem over : Rows.plicOnceRow.holds Try.pinned (OpenSpec.ofChange Rows.plicOnceSpec) :=
  OpenClaim.holds_of_wide 5 Try.f5 rfl rfl rfl rfl rfl rfl rfl ⟨rfl, rfl, rfl, rfl, rfl⟩ rfl rfl rfl rfl rfl (by kernel_rfl) Try.func5 (by kernel_rfl)
    (of_decide_eq_true (by kernel_rfl)) (by unfold Func.isWrapper; first | (rw [if_pos (by decide +kernel)]; kernel_rfl) | (rw [if_neg (by decide +kernel)]; exact ⟨rfl, rfl⟩))
    (fun os started H enc _ => lifted os started H enc)

theorem proved : Rows.PlicOnceSaid := over
#print axioms proved
end Go.Proofs.Ytpanecflmoebiaa.plicOnce
