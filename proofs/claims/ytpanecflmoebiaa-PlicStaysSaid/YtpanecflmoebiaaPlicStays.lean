/-
  The statement that a controller that may be stays so, whatever is set, loaded and stored. For every controller, right or not, lines, place and number. Conditions: none.
-/
import Derived.Test.YtpanecflmoebiaaRows
import Derived.Test.YtpanecflmoebiaaPlU
import Derived.Test.YtpanecflmoebiaaLaw
import Derived.Deep.QuietTactic
import Derived.BigQuiet
import Derived.Deep.DeepCutAuto
set_option linter.unusedVariables false
set_option linter.unusedSimpArgs false
namespace Go.Proofs.Ytpanecflmoebiaa.plicStays
open Go.ChangeShapes Go.WideShapes Go.ChangeAt Go.RowKit

set_option maxRecDepth 100000 in
set_option maxHeartbeats 2000000 in
theorem walk_yes (s sA sB sT : PS) (a1 : Option Addr) (a2 : Nat) (a3 : Option Addr) (a4 : Nat) (a5 : Option Addr) (a6 : Nat) (l off x y : Int) (bA bB : Bool) (hy : y ≤ 7) (W : World) (hP : Pl W (plV s a1 a2 a3 a4 a5 a6) s)
    (r1 : ∀ w v, Pl w v s → Ans 7 #[v] (.bool true) w)
    (r2 : ∀ w v, Pl w v sA → Ans 7 #[v] (.bool true) w)
    (r3 : ∀ w v, Pl w v sB → Ans 7 #[v] (.bool true) w)
    (r4 : ∀ w v, Pl w v sT → Ans 7 #[v] (.bool true) w)
    (rL : ∀ w v, Pl w v s → AnsP 11 #[v, .int .u64 off, .int .i64 4] (fun v' => .tuple #[.int .u64 y, v', .bool bA]) sA w)
    (rS : ∀ w v, Pl w v s → AnsP 12 #[v, .int .u64 off, .int .i64 4, .int .u64 x] (fun v' => .tuple #[v', .bool bB]) sB w)
    (rT : ∀ w v, Pl w v s → AnsP 9 #[v, .int .i64 l] (fun v' => v') sT w) :
    Calls Try.prog 3 #[plV s a1 a2 a3 a4 a5 a6, .int .i64 l, .int .u64 off, .int .u64 x] W fun e w' => e = .returned (.bool true) ∧ Below W.heap.size W w' := by
  have R1 := Lib.hid r1
  have R2 := Lib.hid r2
  have R3 := Lib.hid r3
  have R4 := Lib.hid r4
  have RL := Lib.hid rL
  have RS := Lib.hid rS
  have RT := Lib.hid rT
  have HP := Lib.hid hP
  clear r1 r2 r3 r4 rL rS rT hP
  go_enter Try.func3, Try.ntmps3
  go_upto_region 1 with fail
  have hA : Blk (W.alloc (.cells #[.slice a1 s.pr.length a2, .int .i64 s.n, .int .i64 s.k, .slice a3 s.en.length a4, .slice a5 s.th.length a6] 24)) W.heap.size #[.slice a1 s.pr.length a2, .int .i64 s.n, .int .i64 s.k, .slice a3 s.en.length a4, .slice a5 s.th.length a6] 24 := Blk.new W _ _ _ rfl
  have g0 : Grew W (W.alloc (.cells #[.slice a1 s.pr.length a2, .int .i64 s.n, .int .i64 s.k, .slice a3 s.en.length a4, .slice a5 s.th.length a6] 24)) := (Grew.refl W).alloc _
  generalize (W.alloc (.cells #[.slice a1 s.pr.length a2, .int .i64 s.n, .int .i64 s.k, .slice a3 s.en.length a4, .slice a5 s.th.length a6] 24)) = w0 at *
  have HP0 := Lib.hid (HP.out.grew g0)
  have D0 := Grew.refl w0
  have y0 := (hA.grew D0).cell 0
  have y1 := (hA.grew D0).cell 1
  have y2 := (hA.grew D0).cell 2
  have y3 := (hA.grew D0).cell 3
  have y4 := (hA.grew D0).cell 4
  go_wp2_with fail
  refine Calls.mono (R1.out _ _ (HP0.out.grew D0)) ?_
  rintro e w1 ⟨rfl, g1⟩
  have D1 := D0.trans g1
  clear y0 y1 y2 y3 y4
  have y0 := (hA.grew D1).cell 0
  have y1 := (hA.grew D1).cell 1
  have y2 := (hA.grew D1).cell 2
  have y3 := (hA.grew D1).cell 3
  have y4 := (hA.grew D1).cell 4
  go_wp2_with fail
  refine Calls.mono (RL.out _ _ (HP0.out.grew D1)) ?_
  rintro e w2 ⟨b1, b2, b3, b4, b5, b6, rfl, hb, g2⟩
  have D2 := D1.trans g2
  clear y0 y1 y2 y3 y4
  go_upto_region 4 with fail
  have kb : Blk (w2.alloc (.cells #[.slice b1 sA.pr.length b2, .int .i64 sA.n, .int .i64 sA.k, .slice b3 sA.en.length b4, .slice b5 sA.th.length b6] 24)) w2.heap.size #[.slice b1 sA.pr.length b2, .int .i64 sA.n, .int .i64 sA.k, .slice b3 sA.en.length b4, .slice b5 sA.th.length b6] 24 := Blk.new _ _ _ _ rfl
  have D3 : Grew w0 (w2.alloc (.cells #[.slice b1 sA.pr.length b2, .int .i64 sA.n, .int .i64 sA.k, .slice b3 sA.en.length b4, .slice b5 sA.th.length b6] 24)) := D2.alloc _
  have Pb := Lib.hid (hb.out.grew ((Grew.refl w2).alloc (.cells #[.slice b1 sA.pr.length b2, .int .i64 sA.n, .int .i64 sA.k, .slice b3 sA.en.length b4, .slice b5 sA.th.length b6] 24)))
  have Sb : Grew w2 (w2.alloc (.cells #[.slice b1 sA.pr.length b2, .int .i64 sA.n, .int .i64 sA.k, .slice b3 sA.en.length b4, .slice b5 sA.th.length b6] 24)) := (Grew.refl w2).alloc _
  generalize (w2.alloc (.cells #[.slice b1 sA.pr.length b2, .int .i64 sA.n, .int .i64 sA.k, .slice b3 sA.en.length b4, .slice b5 sA.th.length b6] 24)) = w3 at *
  generalize w2.heap.size = Bb at *
  have y0 := (hA.grew D3).cell 0
  have y1 := (hA.grew D3).cell 1
  have y2 := (hA.grew D3).cell 2
  have y3 := (hA.grew D3).cell 3
  have y4 := (hA.grew D3).cell 4
  go_wp2_with fail
  refine Calls.mono (RS.out _ _ (HP0.out.grew D3)) ?_
  rintro e w4 ⟨c1, c2, c3, c4, c5, c6, rfl, hc, g4⟩
  have D4 := D3.trans g4
  clear y0 y1 y2 y3 y4
  go_upto_region 5 with fail
  have kc : Blk (w4.alloc (.cells #[.slice c1 sB.pr.length c2, .int .i64 sB.n, .int .i64 sB.k, .slice c3 sB.en.length c4, .slice c5 sB.th.length c6] 24)) w4.heap.size #[.slice c1 sB.pr.length c2, .int .i64 sB.n, .int .i64 sB.k, .slice c3 sB.en.length c4, .slice c5 sB.th.length c6] 24 := Blk.new _ _ _ _ rfl
  have D5 : Grew w0 (w4.alloc (.cells #[.slice c1 sB.pr.length c2, .int .i64 sB.n, .int .i64 sB.k, .slice c3 sB.en.length c4, .slice c5 sB.th.length c6] 24)) := D4.alloc _
  have Pc := Lib.hid (hc.out.grew ((Grew.refl w4).alloc (.cells #[.slice c1 sB.pr.length c2, .int .i64 sB.n, .int .i64 sB.k, .slice c3 sB.en.length c4, .slice c5 sB.th.length c6] 24)))
  have Sc : Grew w4 (w4.alloc (.cells #[.slice c1 sB.pr.length c2, .int .i64 sB.n, .int .i64 sB.k, .slice c3 sB.en.length c4, .slice c5 sB.th.length c6] 24)) := (Grew.refl w4).alloc _
  generalize (w4.alloc (.cells #[.slice c1 sB.pr.length c2, .int .i64 sB.n, .int .i64 sB.k, .slice c3 sB.en.length c4, .slice c5 sB.th.length c6] 24)) = w5 at *
  generalize w4.heap.size = Bc at *
  have T4 := g4.trans Sc
  have kb5 := kb.grew T4
  have Pb5 := Lib.hid (Pb.out.grew T4)
  have F5 := Grew.refl w5
  clear kb Pb T4
  have y0 := kb5.cell 0
  have y1 := kb5.cell 1
  have y2 := kb5.cell 2
  have y3 := kb5.cell 3
  have y4 := kb5.cell 4
  go_wp2_with fail
  refine Calls.mono (R2.out _ _ Pb5.out) ?_
  rintro e w6 ⟨rfl, g6⟩
  have F6 := F5.trans g6
  clear y0 y1 y2 y3 y4
  have y0 := (kc.grew F6).cell 0
  have y1 := (kc.grew F6).cell 1
  have y2 := (kc.grew F6).cell 2
  have y3 := (kc.grew F6).cell 3
  have y4 := (kc.grew F6).cell 4
  go_wp2_with fail
  refine Calls.mono (R3.out _ _ (Pc.out.grew F6)) ?_
  rintro e w7 ⟨rfl, g7⟩
  have F7 := F6.trans g7
  have D7 := D5.trans F7
  clear y0 y1 y2 y3 y4
  have y0 := (hA.grew D7).cell 0
  have y1 := (hA.grew D7).cell 1
  have y2 := (hA.grew D7).cell 2
  have y3 := (hA.grew D7).cell 3
  have y4 := (hA.grew D7).cell 4
  go_wp2_with fail
  refine Calls.mono (RT.out _ _ (HP0.out.grew D7)) ?_
  rintro e w8 ⟨d1, d2, d3, d4, d5, d6, rfl, hd, g8⟩
  have D8 := D7.trans g8
  clear y0 y1 y2 y3 y4
  go_wp2_with fail
  refine Calls.mono (R4.out _ _ hd.out) ?_
  rintro e w9 ⟨rfl, g9⟩
  have D9 := D8.trans g9
  go_wp2_with fail
  refine (heads_c (g0.trans D9)).mono ?_
  rintro e w10 ⟨rfl, g10⟩
  go_wp2_with fail
  go_ret
  exact ⟨rfl, g10⟩

/-- What the operations of a region give. -/
def styR (s : PS) (a1 : Option Addr) (a2 : Nat) (a3 : Option Addr) (a4 : Nat) (a5 : Option Addr) (a6 : Nat) (l : Int) : (Nat → Value) → Nat → Value → World → Prop
  | _, 0, v, _ => v = plV s a1 a2 a3 a4 a5 a6
  | _, 1, v, _ => v = .int .i64 l
  | _, 2, v, w => Pl w v s
  | _, 3, v, _ => v = plV s a1 a2 a3 a4 a5 a6
  | _, 4, v, _ => v = .bool true
  | _, 5, v, _ => v = .bool true
  | _, 6, v, _ => v = .bool true
  | _, 7, v, _ => v = .bool true
  | _, 8, v, _ => v = .bool true
  | _, _, _, _ => True
theorem styR_grew {s : PS} {a1 : Option Addr} {a2 : Nat} {a3 : Option Addr} {a4 : Nat} {a5 : Option Addr} {a6 : Nat} {l : Int} : ∀ vs j v w w', Grew w w' → styR s a1 a2 a3 a4 a5 a6 l vs j v w → styR s a1 a2 a3 a4 a5 a6 l vs j v w'
  | _, 0, _, _, _, _, h => h
  | _, 1, _, _, _, _, h => h
  | _, 2, _, _, _, g, h => h.grew g
  | _, 3, _, _, _, _, h => h
  | _, 4, _, _, _, _, h => h
  | _, 5, _, _, _, _, h => h
  | _, 6, _, _, _, _, h => h
  | _, 7, _, _, _, _, h => h
  | _, 8, _, _, _, _, h => h
  | _, _ + 9, _, _, _, _, _ => True.intro
theorem styR_lt {s : PS} {a1 : Option Addr} {a2 : Nat} {a3 : Option Addr} {a4 : Nat} {a5 : Option Addr} {a6 : Nat} {l : Int} : ∀ vs j v w, ([] : List Nat).contains j = true → styR s a1 a2 a3 a4 a5 a6 l vs j v w → ∀ g, leadsTo v = some g → g < w.heap.size
  | _, 0, _, _, hc, _ => by simp at hc
  | _, 1, _, _, hc, _ => by simp at hc
  | _, 2, _, _, hc, _ => by simp at hc
  | _, 3, _, _, hc, _ => by simp at hc
  | _, 4, _, _, hc, _ => by simp at hc
  | _, 5, _, _, hc, _ => by simp at hc
  | _, 6, _, _, hc, _ => by simp at hc
  | _, 7, _, _, hc, _ => by simp at hc
  | _, 8, _, _, hc, _ => by simp at hc
  | _, _ + 9, _, _, hc, _ => by simp at hc
theorem styR_loc {s : PS} {a1 : Option Addr} {a2 : Nat} {a3 : Option Addr} {a4 : Nat} {a5 : Option Addr} {a6 : Nat} {l : Int} : ∀ (vs vs' : Nat → Value) j v w, (∀ k ∈ ([[], [], [], [], [], [], [], [], []] : List (List Nat)).getD j [], vs k = vs' k) → styR s a1 a2 a3 a4 a5 a6 l vs j v w → styR s a1 a2 a3 a4 a5 a6 l vs' j v w
  | _, _, 0, _, _, _, h => h
  | _, _, 1, _, _, _, h => h
  | _, _, 2, _, _, _, h => h
  | _, _, 3, _, _, _, h => h
  | _, _, 4, _, _, _, h => h
  | _, _, 5, _, _, _, h => h
  | _, _, 6, _, _, _, h => h
  | _, _, 7, _, _, _, h => h
  | _, _, 8, _, _, _, h => h
  | _, _, _ + 9, _, _, _, _ => True.intro

set_option maxRecDepth 100000 in
set_option maxHeartbeats 2000000 in
theorem walk_no (s : PS) (a1 : Option Addr) (a2 : Nat) (a3 : Option Addr) (a4 : Nat) (a5 : Option Addr) (a6 : Nat) (l off x : Int) (W : World) (hP : Pl W (plV s a1 a2 a3 a4 a5 a6) s)
    (r1 : ∀ w v, Pl w v s → Ans 7 #[v] (.bool false) w)
    (rT : ∀ w v, Pl w v s → AnsP 9 #[v, .int .i64 l] (fun v' => v') s w) :
    Calls Try.prog 3 #[plV s a1 a2 a3 a4 a5 a6, .int .i64 l, .int .u64 off, .int .u64 x] W fun e w' => e = .returned (.bool true) ∧ Below W.heap.size W w' := by
  have R1 := Lib.hid r1
  have RT := Lib.hid rT
  have HP := Lib.hid hP
  clear r1 rT hP
  go_enter Try.func3, Try.ntmps3
  go_upto_region 1 with fail
  have hA : Blk (W.alloc (.cells #[.slice a1 s.pr.length a2, .int .i64 s.n, .int .i64 s.k, .slice a3 s.en.length a4, .slice a5 s.th.length a6] 24)) W.heap.size #[.slice a1 s.pr.length a2, .int .i64 s.n, .int .i64 s.k, .slice a3 s.en.length a4, .slice a5 s.th.length a6] 24 := Blk.new W _ _ _ rfl
  have g0 : Grew W (W.alloc (.cells #[.slice a1 s.pr.length a2, .int .i64 s.n, .int .i64 s.k, .slice a3 s.en.length a4, .slice a5 s.th.length a6] 24)) := (Grew.refl W).alloc _
  generalize (W.alloc (.cells #[.slice a1 s.pr.length a2, .int .i64 s.n, .int .i64 s.k, .slice a3 s.en.length a4, .slice a5 s.th.length a6] 24)) = w0 at *
  have HP0 := Lib.hid (HP.out.grew g0)
  have D0 := Grew.refl w0
  have y0 := (hA.grew D0).cell 0
  have y1 := (hA.grew D0).cell 1
  have y2 := (hA.grew D0).cell 2
  have y3 := (hA.grew D0).cell 3
  have y4 := (hA.grew D0).cell 4
  go_wp2_with fail
  refine Calls.mono (R1.out _ _ (HP0.out.grew D0)) ?_
  rintro e w1 ⟨rfl, g1⟩
  have D1 := D0.trans g1
  clear y0 y1 y2 y3 y4
  go_upto_region 2 with fail
  refine region_deps 9 [some 17, some 18, some 19, some 20, some 21, some 22, some 23, some 24, some 8] [[], [], [], [], [], [], [], [], []] [] (styR s a1 a2 a3 a4 a5 a6 l) styR_grew styR_lt styR_loc (Grew.refl w1) (by kernel_rfl) (by kernel_rfl) ?_ ?_
  · simp only [List.take_succ_cons, List.take_zero]
    refine GivesAll.cons (fun vs w1 g1 hd K hK => ?_) ?_
    · simp only [putsT, Nat.zero_add, Nat.reduceAdd, List.getD_cons_zero, List.getD_cons_succ, Act.put, List.setIfInBounds_toArray, List.set_cons_zero, List.set_cons_succ] at hK ⊢
      have y0 := ((hA.grew D1).grew g1).cell 0
      have y1 := ((hA.grew D1).grew g1).cell 1
      have y2 := ((hA.grew D1).grew g1).cell 2
      have y3 := ((hA.grew D1).grew g1).cell 3
      have y4 := ((hA.grew D1).grew g1).cell 4
      go_simp
      exact hK _ _ (Grew.refl _) rfl (fun h => by simp at h)
    refine GivesAll.cons (fun vs w1 g1 hd K hK => ?_) ?_
    · simp only [putsT, Nat.zero_add, Nat.reduceAdd, List.getD_cons_zero, List.getD_cons_succ, Act.put, List.setIfInBounds_toArray, List.set_cons_zero, List.set_cons_succ] at hK ⊢
      go_simp
      exact hK _ _ (Grew.refl _) rfl (fun h => by simp at h)
    refine GivesAll.cons (fun vs w1 g1 hd K hK => ?_) ?_
    · have e0 : vs 0 = plV s a1 a2 a3 a4 a5 a6 := hd 0 (by kernel_rfl)
      have e1 : vs 1 = .int .i64 l := hd 1 (by kernel_rfl)
      simp only [putsT, Nat.zero_add, Nat.reduceAdd, List.getD_cons_zero, List.getD_cons_succ, Act.put, List.setIfInBounds_toArray, List.set_cons_zero, List.set_cons_succ, e0, e1] at hK ⊢
      go_simp
      refine Calls.mono (RT.out _ _ (HP0.out.grew (D1.trans g1))) ?_
      rintro e w5 ⟨c1, c2, c3, c4, c5, c6, rfl, h5, g5⟩
      exact hK _ _ g5 h5.out (fun h => by simp at h)
    refine GivesAll.cons (fun vs w1 g1 hd K hK => ?_) ?_
    · simp only [putsT, Nat.zero_add, Nat.reduceAdd, List.getD_cons_zero, List.getD_cons_succ, Act.put, List.setIfInBounds_toArray, List.set_cons_zero, List.set_cons_succ] at hK ⊢
      have y0 := ((hA.grew D1).grew g1).cell 0
      have y1 := ((hA.grew D1).grew g1).cell 1
      have y2 := ((hA.grew D1).grew g1).cell 2
      have y3 := ((hA.grew D1).grew g1).cell 3
      have y4 := ((hA.grew D1).grew g1).cell 4
      go_simp
      exact hK _ _ (Grew.refl _) rfl (fun h => by simp at h)
    refine GivesAll.cons (fun vs w1 g1 hd K hK => ?_) ?_
    · have r2 : Pl w1 (vs 2) s := hd 2 (by kernel_rfl)
      have e3 : vs 3 = plV s a1 a2 a3 a4 a5 a6 := hd 3 (by kernel_rfl)
      simp only [putsT, Nat.zero_add, Nat.reduceAdd, List.getD_cons_zero, List.getD_cons_succ, Act.put, List.setIfInBounds_toArray, List.set_cons_zero, List.set_cons_succ, e3] at hK ⊢
      go_simp
      refine Calls.mono (Same_c r2 (HP0.out.grew (D1.trans g1)) (Grew.refl w1)) ?_
      rintro e w5 ⟨rfl, g5⟩
      exact hK _ _ g5 rfl (fun h => by simp at h)
    refine GivesAll.cons (fun vs w1 g1 hd K hK => ?_) ?_
    · have e4 : vs 4 = .bool true := hd 4 (by kernel_rfl)
      simp only [putsT, Nat.zero_add, Nat.reduceAdd, List.getD_cons_zero, List.getD_cons_succ, Act.put, List.setIfInBounds_toArray, List.set_cons_zero, List.set_cons_succ, e4] at hK ⊢
      go_simp
      exact hK _ _ (Grew.refl _) rfl (fun h => by simp at h)
    refine GivesAll.cons (fun vs w1 g1 hd K hK => ?_) ?_
    · have e5 : vs 5 = .bool true := hd 5 (by kernel_rfl)
      simp only [putsT, Nat.zero_add, Nat.reduceAdd, List.getD_cons_zero, List.getD_cons_succ, Act.put, List.setIfInBounds_toArray, List.set_cons_zero, List.set_cons_succ, e5] at hK ⊢
      go_simp
      refine Calls.mono (heads_c (Grew.refl w1)) ?_
      rintro e w5 ⟨rfl, g5⟩
      exact hK _ _ g5 rfl (fun h => by simp at h)
    refine GivesAll.cons (fun vs w1 g1 hd K hK => ?_) ?_
    · have e5 : vs 5 = .bool true := hd 5 (by kernel_rfl)
      have e6 : vs 6 = .bool true := hd 6 (by kernel_rfl)
      simp only [putsT, Nat.zero_add, Nat.reduceAdd, List.getD_cons_zero, List.getD_cons_succ, Act.put, List.setIfInBounds_toArray, List.set_cons_zero, List.set_cons_succ, e5, e6] at hK ⊢
      go_simp
      exact hK _ _ (Grew.refl _) rfl (fun h => by simp at h)
    refine GivesAll.cons (fun vs w1 g1 hd K hK => ?_) ?_
    · have e7 : vs 7 = .bool true := hd 7 (by kernel_rfl)
      simp only [putsT, Nat.zero_add, Nat.reduceAdd, List.getD_cons_zero, List.getD_cons_succ, Act.put, List.setIfInBounds_toArray, List.set_cons_zero, List.set_cons_succ, e7] at hK ⊢
      go_simp
      exact hK _ _ (Grew.refl _) rfl (fun h => by simp at h)
    exact GivesAll.nil
  intro vs wz gz hv hap
  have e0 : vs 0 = plV s a1 a2 a3 a4 a5 a6 := hv 0 (by decide)
  have e1 : vs 1 = .int .i64 l := hv 1 (by decide)
  have r2 : Pl wz (vs 2) s := hv 2 (by decide)
  have e3 : vs 3 = plV s a1 a2 a3 a4 a5 a6 := hv 3 (by decide)
  have e4 : vs 4 = .bool true := hv 4 (by decide)
  have e5 : vs 5 = .bool true := hv 5 (by decide)
  have e6 : vs 6 = .bool true := hv 6 (by decide)
  have e7 : vs 7 = .bool true := hv 7 (by decide)
  have e8 : vs 8 = .bool true := hv 8 (by decide)
  clear hv hap
  simp only [putsT, Nat.zero_add, Nat.reduceAdd, List.getD_cons_zero, List.getD_cons_succ, Act.put, List.setIfInBounds_toArray, List.set_cons_zero, List.set_cons_succ, List.drop_succ_cons, List.drop_zero, e0, e1, e3, e4, e5, e6, e7, e8]
  clear e0 e1 e3 e4 e5 e6 e7 e8
  have DZ := D1.trans gz
  go_wp2_with fail
  go_ret
  exact ⟨rfl, g0.trans DZ⟩

theorem walk (s : PS) (a1 : Option Addr) (a2 : Nat) (a3 : Option Addr) (a4 : Nat) (a5 : Option Addr) (a6 : Nat) (l : Int) (_hl : -9223372036854775808 ≤ l ∧ l ≤ 9223372036854775807) (off : Int) (_ho : 0 ≤ off ∧ off < 18446744073709551616) (x : Int) (hx : 0 ≤ x ∧ x < 18446744073709551616) (W : World) (hP : Pl W (plV s a1 a2 a3 a4 a5 a6) s) (hf : s.Fits) :
    Calls Try.prog 3 #[plV s a1 a2 a3 a4 a5 a6, .int .i64 l, .int .u64 off, .int .u64 x] W fun e w' => e = .returned (.bool true) ∧ Below W.heap.size W w' := by
  cases hc : chk s
  · exact walk_no s a1 a2 a3 a4 a5 a6 l off x W hP (check_a hc) (set_a hf (set_bad hc l))
  · have hA := chk_ld hP hc off 4
    exact walk_yes s (ldS s off 4) (stS s off 4 x) (setS s l) a1 a2 a3 a4 a5 a6 l off x (ldY s off 4) (!badB s off 4) (!badB s off 4) hA.2.2 W hP (check_a hc) (check_a hA.1) (check_a (chk_st hP hc off 4 x)) (check_a (chk_set hP hc l)) (load_a hf rfl rfl rfl) (store_a hf hx.1 hx.2 rfl rfl) (set_a hf rfl)
set_option maxRecDepth 100000 in
theorem lifted (os : Os) (started : os.Started) (H : Type) (enc : TypeId × Value → H) :
    ReturnsInHanded {} Try.checked os 3 .any (Rows.plicStaysSpec.pre6 enc Try.prog Try.f3 Rows.plicStaysRow.domain false) (Rows.plicStaysSpec.post enc Try.prog Try.f3 false true false false) := by
  refine returnsInHanded_of_change_sized (C := Try.checked) own started (by kernel_rfl) Try.func3
    (ChangeSpec.witness6 (enc := enc) (C := Try.checked) false ⟨#[], #[.agg #[.slice none 0 0, .int .i64 0, .int .i64 0, .slice none 0 0, .slice none 0 0], .int .i64 0, .int .u64 0, .int .u64 0], []⟩ 8 (by kernel_rfl) (by kernel_rfl) (by kernel_rfl) (by kernel_rfl)) ?_
  intro W base args ds gs before hval0 hW _ hz0 _
  have hval : ∀ (j : Nat) t v, Try.f3.params[j]? = some t → args[j]? = some v → Value.okWide Try.prog W .any base t v := hval0
  have hW' := hW
  obtain ⟨p, q, hA0, hV, rfl, hfz, hnd⟩ := hW
  have hA : DataW.TrodAll enc Try.prog W 0 (fun _ => true) true Try.f3.params.toList args.toList ds p := hA0
  rw [Try.params3] at hA hval
  obtain ⟨v0, vs0, d0, ds0, p0, q0, hargs, rfl, rfl, h0, r'0⟩ := trodAll_cons hA
  obtain ⟨v1, vs1, d1, ds1, p1, q1, rfl, rfl, rfl, h1, r'1⟩ := trodAll_cons r'0
  obtain ⟨v2, vs2, d2, ds2, p2, q2, rfl, rfl, rfl, h2, r'2⟩ := trodAll_cons r'1
  obtain ⟨v3, vs3, d3, ds3, p3, q3, rfl, rfl, rfl, h3, r'3⟩ := trodAll_cons r'2
  obtain ⟨rfl, rfl, rfl⟩ := trodAll_nil r'3
  obtain rfl : args = #[v0, v1, v2, v3] := by cases args; simp_all
  obtain ⟨s0, pa0, pc0, qa0, qc0, ra0, rc0, rfl, k0, f0⟩ := open_plic (hval 0 24 v0 rfl rfl) h0
  have fits0 := f0 (fun m hm => by simpa using List.all_eq_true.1 hz0 _ (DataW.weights_mem_each (j := 0) (t := 24) rfl rfl m hm))
  obtain ⟨a1, rfl, rfl, rfl, w1⟩ := open_int Try.underlying3 (hval 1 3 v1 rfl rfl) h1
  obtain ⟨a2, rfl, rfl, rfl, w2⟩ := open_int Try.underlying25 (hval 2 25 v2 rfl rfl) h2
  obtain ⟨a3, rfl, rfl, rfl, w3⟩ := open_int Try.underlying25 (hval 3 25 v3 rfl rfl) h3
  refine (walk s0 pa0 pc0 qa0 qc0 ra0 rc0 a1 (wf_i64 w1) a2 (wf_u64 w2) a3 (wf_u64 w3) W k0 fits0).mono fun e W' ⟨he, hb⟩ => ?_
  subst he
  exact ⟨_, rfl, law_post hW' rfl rfl laid (by kernel_rfl) rfl Try.underlying4 hb⟩

theorem over : Rows.plicStaysRow.holds Try.pinned (OpenSpec.ofChange Rows.plicStaysSpec) :=
  OpenClaim.holds_of_wide 3 Try.f3 rfl rfl rfl rfl rfl rfl rfl ⟨rfl, rfl, rfl, rfl, rfl⟩ rfl rfl rfl rfl rfl (by kernel_rfl) Try.func3 (by kernel_rfl)
    (of_decide_eq_true (by kernel_rfl)) (by unfold Func.isWrapper; first | (rw [if_pos (by decide +kernel)]; kernel_rfl) | (rw [if_neg (by decide +kernel)]; exact ⟨rfl, rfl⟩))
    (fun os started H enc _ => lifted os started H enc)

theorem proved : Rows.PlicStaysSaid := over
#print axioms proved
end Go.Proofs.Ytpanecflmoebiaa.plicStays
