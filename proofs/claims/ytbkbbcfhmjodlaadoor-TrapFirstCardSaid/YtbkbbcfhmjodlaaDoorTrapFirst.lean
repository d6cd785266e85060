/-
  The statement TrapFirst: for all registers and privilege: an interrupt of the machine comes ahead of each of the supervisor's, and none comes to a machine that lets none in. Conditions: none but those of the statement's row (the package variable as the text lays it).
-/
import Derived.Test.YtbkbbcfhmjodlaaDoorTrpM
import Derived.Test.YtbkbbcfhmjodlaaDoorCards
import Derived.Test.YtbkbbcfhmjodlaaDoorTie
import Derived.SevenTiedAt
set_option linter.unusedVariables false
set_option linter.unusedSimpArgs false
namespace Go.Proofs.YtbkbbcfhmjodlaaDoor.TrapFirst
open Go.ChangeShapes Go.WideShapes Go.ChangeAt Go.RowKit

set_option maxRecDepth 100000 in
set_option maxHeartbeats 2000000 in
theorem walk_mine (c : Nat → Int) (p : Int) (n : Nat) (n1 : (n : Int) < 64) (y : Nat) (hy : bits .and .u64 (bits .andNot .u64 (bits .and .u64 (c 4) (c 3)) (c 2)) 2730 = (y : Int)) (h0 : ((y : Int) != 0) = true) (E : bits .and .u64 ((y : Int) / 2 ^ n) 1 = 1) (y1 : (y : Int) < 18446744073709551616) (p3 : decide (p < 3) = true) (HA : ∀ {W w : World}, Ord W → Grew W w → Calls Tryd.prog 8 #[csV c, .int .i64 p] w fun e w' => e = .returned (.tuple #[.int .i64 (n : Nat), .bool true]) ∧ Grew W w') {W : World} (so : Ord W) :
    Calls Tryd.prog 3 #[csV c, .int .i64 p] W fun e w' => e = .returned (.bool true) ∧ Below W.heap.size W w' := by
  have g0 := (Grew.refl W).alloc (.cells (csA c) 24)
  go_enter Tryd.func3, Tryd.ntmps3
  go_wp2_with (first
    | ((with_reducible refine ld_cs rfl (.tmp 2) rfl _ rfl (Blk.new W _ _ _ rfl) ?_ ?_); (rotate_left 1))
    | fail)
  refine (HA (so.grew g0) (Grew.refl _)).mono ?_
  rintro e w1 ⟨rfl, h1⟩
  have g1 := g0.trans h1
  have k1 := (Blk.new W (csA c) 24 _ rfl).grew h1
  clear HA h1 g0
  have y4 : w1.cell? ⟨W.heap.size, 4, none⟩ = some (.int .u64 (c 4)) := by rw [k1.cell, csA_4]
  have y3 : w1.cell? ⟨W.heap.size, 3, none⟩ = some (.int .u64 (c 3)) := by rw [k1.cell, csA_3]
  have y2 : w1.cell? ⟨W.heap.size, 2, none⟩ = some (.int .u64 (c 2)) := by rw [k1.cell, csA_2]
  have y0 : w1.cell? ⟨W.heap.size, 0, none⟩ = some (.int .u64 (c 0)) := by rw [k1.cell, csA_0]
  clear k1
  go_wp2_with fail
  refine (heads_c (so.grew g1) (Grew.refl _)).mono ?_
  rintro e w2 ⟨rfl, h2⟩
  have g2 := g1.trans h2
  go_wp2_with fail
  · go_ret
    exact ⟨rfl, g2⟩
  all_goals rfl

set_option maxRecDepth 100000 in
set_option maxHeartbeats 2000000 in
theorem walk_quiet (c : Nat → Int) (p : Int) (n : Int) (y : Nat) (hy : bits .and .u64 (bits .andNot .u64 (bits .and .u64 (c 4) (c 3)) (c 2)) 2730 = (y : Int)) (p3 : decide (p < 3) = false) (q3 : decide (3 ≤ p) = true) (h8 : (bits .and .u64 (c 0) 8 == 0) = true) (HA : ∀ {W w : World}, Ord W → Grew W w → Calls Tryd.prog 8 #[csV c, .int .i64 p] w fun e w' => e = .returned (.tuple #[.int .i64 n, .bool false]) ∧ Grew W w') {W : World} (so : Ord W) :
    Calls Tryd.prog 3 #[csV c, .int .i64 p] W fun e w' => e = .returned (.bool true) ∧ Below W.heap.size W w' := by
  have g0 := (Grew.refl W).alloc (.cells (csA c) 24)
  go_enter Tryd.func3, Tryd.ntmps3
  go_wp2_with (first
    | ((with_reducible refine ld_cs rfl (.tmp 2) rfl _ rfl (Blk.new W _ _ _ rfl) ?_ ?_); (rotate_left 1))
    | fail)
  refine (HA (so.grew g0) (Grew.refl _)).mono ?_
  rintro e w1 ⟨rfl, h1⟩
  have g1 := g0.trans h1
  have k1 := (Blk.new W (csA c) 24 _ rfl).grew h1
  clear HA h1 g0
  have y4 : w1.cell? ⟨W.heap.size, 4, none⟩ = some (.int .u64 (c 4)) := by rw [k1.cell, csA_4]
  have y3 : w1.cell? ⟨W.heap.size, 3, none⟩ = some (.int .u64 (c 3)) := by rw [k1.cell, csA_3]
  have y2 : w1.cell? ⟨W.heap.size, 2, none⟩ = some (.int .u64 (c 2)) := by rw [k1.cell, csA_2]
  have y0 : w1.cell? ⟨W.heap.size, 0, none⟩ = some (.int .u64 (c 0)) := by rw [k1.cell, csA_0]
  clear k1
  go_wp2_with fail
  refine (heads_c (so.grew g1) (Grew.refl _)).mono ?_
  rintro e w2 ⟨rfl, h2⟩
  have g2 := g1.trans h2
  go_wp2_with fail
  · go_ret
    exact ⟨rfl, g2⟩
  all_goals rfl

set_option maxRecDepth 100000 in
set_option maxHeartbeats 2000000 in
theorem walk_low (c : Nat → Int) (p : Int) (n : Int) (b : Bool) (n0 : decide (0 ≤ n) = true) (n1 : decide (n ≤ 11) = true) (y : Nat) (hy : bits .and .u64 (bits .andNot .u64 (bits .and .u64 (c 4) (c 3)) (c 2)) 2730 = (y : Int)) (h0 : ((y : Int) != 0) = false) (p3 : decide (p < 3) = true) (q3 : decide (3 ≤ p) = false) (HA : ∀ {W w : World}, Ord W → Grew W w → Calls Tryd.prog 8 #[csV c, .int .i64 p] w fun e w' => e = .returned (.tuple #[.int .i64 n, .bool b]) ∧ Grew W w') {W : World} (so : Ord W) :
    Calls Tryd.prog 3 #[csV c, .int .i64 p] W fun e w' => e = .returned (.bool true) ∧ Below W.heap.size W w' := by
  have g0 := (Grew.refl W).alloc (.cells (csA c) 24)
  go_enter Tryd.func3, Tryd.ntmps3
  go_wp2_with (first
    | ((with_reducible refine ld_cs rfl (.tmp 2) rfl _ rfl (Blk.new W _ _ _ rfl) ?_ ?_); (rotate_left 1))
    | fail)
  refine (HA (so.grew g0) (Grew.refl _)).mono ?_
  rintro e w1 ⟨rfl, h1⟩
  have g1 := g0.trans h1
  have k1 := (Blk.new W (csA c) 24 _ rfl).grew h1
  clear HA h1 g0
  have y4 : w1.cell? ⟨W.heap.size, 4, none⟩ = some (.int .u64 (c 4)) := by rw [k1.cell, csA_4]
  have y3 : w1.cell? ⟨W.heap.size, 3, none⟩ = some (.int .u64 (c 3)) := by rw [k1.cell, csA_3]
  have y2 : w1.cell? ⟨W.heap.size, 2, none⟩ = some (.int .u64 (c 2)) := by rw [k1.cell, csA_2]
  have y0 : w1.cell? ⟨W.heap.size, 0, none⟩ = some (.int .u64 (c 0)) := by rw [k1.cell, csA_0]
  clear k1
  go_wp2_with fail
  refine (heads_c (so.grew g1) (Grew.refl _)).mono ?_
  rintro e w2 ⟨rfl, h2⟩
  have g2 := g1.trans h2
  go_wp2_with fail
  · go_ret
    exact ⟨rfl, g2⟩
  all_goals rfl

set_option maxRecDepth 100000 in
set_option maxHeartbeats 2000000 in
theorem walk_high (c : Nat → Int) (p : Int) (n : Int) (b : Bool) (n0 : decide (0 ≤ n) = true) (n1 : decide (n ≤ 11) = true) (y : Nat) (hy : bits .and .u64 (bits .andNot .u64 (bits .and .u64 (c 4) (c 3)) (c 2)) 2730 = (y : Int)) (p3 : decide (p < 3) = false) (q3 : decide (3 ≤ p) = true) (h8 : (bits .and .u64 (c 0) 8 == 0) = false) (HA : ∀ {W w : World}, Ord W → Grew W w → Calls Tryd.prog 8 #[csV c, .int .i64 p] w fun e w' => e = .returned (.tuple #[.int .i64 n, .bool b]) ∧ Grew W w') {W : World} (so : Ord W) :
    Calls Tryd.prog 3 #[csV c, .int .i64 p] W fun e w' => e = .returned (.bool true) ∧ Below W.heap.size W w' := by
  have g0 := (Grew.refl W).alloc (.cells (csA c) 24)
  go_enter Tryd.func3, Tryd.ntmps3
  go_wp2_with (first
    | ((with_reducible refine ld_cs rfl (.tmp 2) rfl _ rfl (Blk.new W _ _ _ rfl) ?_ ?_); (rotate_left 1))
    | fail)
  refine (HA (so.grew g0) (Grew.refl _)).mono ?_
  rintro e w1 ⟨rfl, h1⟩
  have g1 := g0.trans h1
  have k1 := (Blk.new W (csA c) 24 _ rfl).grew h1
  clear HA h1 g0
  have y4 : w1.cell? ⟨W.heap.size, 4, none⟩ = some (.int .u64 (c 4)) := by rw [k1.cell, csA_4]
  have y3 : w1.cell? ⟨W.heap.size, 3, none⟩ = some (.int .u64 (c 3)) := by rw [k1.cell, csA_3]
  have y2 : w1.cell? ⟨W.heap.size, 2, none⟩ = some (.int .u64 (c 2)) := by rw [k1.cell, csA_2]
  have y0 : w1.cell? ⟨W.heap.size, 0, none⟩ = some (.int .u64 (c 0)) := by rw [k1.cell, csA_0]
  clear k1
  go_wp2_with fail
  refine (heads_c (so.grew g1) (Grew.refl _)).mono ?_
  rintro e w2 ⟨rfl, h2⟩
  have g2 := g1.trans h2
  go_wp2_with fail
  · go_ret
    exact ⟨rfl, g2⟩
  all_goals rfl

theorem walk (c : Nat → Int) (hc : csOk c) (p : Int) (hp : -9223372036854775808 ≤ p ∧ p ≤ 9223372036854775807) {W : World} (so : Ord W) :
    Calls Tryd.prog 3 #[csV c, .int .i64 p] W fun e w' => e = .returned (.bool true) ∧ Below W.heap.size W w' := by
  have h4 := hc 4
  have h3 := hc 3
  have h2 := hc 2
  have HA := fun {W w : World} (so : Ord W) (hg : Grew W w) => pend_p c hc p so hg
  have m4 : (c 4).toNat < 2 ^ 64 := by omega
  have m3 : (c 3).toNat < 2 ^ 64 := by omega
  have m2 : (c 2).toNat < 2 ^ 64 := by omega
  have hy : bits .and .u64 (bits .andNot .u64 (bits .and .u64 (c 4) (c 3)) (c 2)) 2730 = ((ndn ((c 4).toNat &&& (c 3).toNat) (c 2).toNat &&& 2730 : Nat) : Int) := by
    have e4 : c 4 = ((c 4).toNat : Int) := by omega
    have e3 : c 3 = ((c 3).toNat : Int) := by omega
    have e2 : c 2 = ((c 2).toNat : Int) := by omega
    conv => lhs; rw [e4, e3, e2]
    rw [b_and _ _ m4 m3, b_not _ _ (and_lt _ _ m4) m2, l_and _ (ndn_lt _ _ (and_lt _ _ m4)) 2730 (by decide) 2730 rfl]
  have yl : ndn ((c 4).toNat &&& (c 3).toNat) (c 2).toNat &&& 2730 < 2 ^ 64 := and_lt _ _ (ndn_lt _ _ (and_lt _ _ m4))
  have hr := pen_range (m := (c 4).toNat) (e := (c 3).toNat) (d := (c 2).toNat) (s := stN c) (p := p) m4 m2
  change 0 ≤ penIc c p ∧ penIc c p ≤ 11 at hr
  have n0 := decide_eq_true hr.1
  have n1 := decide_eq_true hr.2
  by_cases p3 : p < 3
  · by_cases h0 : ndn ((c 4).toNat &&& (c 3).toNat) (c 2).toNat &&& 2730 = 0
    · exact walk_low c p _ _ n0 n1 _ hy (by rw [h0]; rfl) (decide_eq_true p3) (by rw [decide_eq_false_iff_not]; omega) HA so
    · obtain ⟨hb, j, hj, hi, hbit⟩ := pen_mine (s := stN c) m4 m2 p3 h0
      change penBc c p = _ at hb
      change penIc c p = _ at hi
      rw [hb, hi] at HA
      refine walk_mine c p (ordA j) (by have := ord_lt j; omega) _ hy (by simp only [bne_iff_ne]; omega) ?_ (by omega) (decide_eq_true p3) HA so
      rw [and_one _ _ yl, bit_bool, hbit]
      rfl
  · have q3 : 3 ≤ p := by omega
    have h0 := hc 0
    have e8 : (bits .and .u64 (c 0) 8 == 0) = !(stN c).testBit 3 := by
      have e : c 0 = (stN c : Int) := stN_is hc
      rw [e, l_and _ (stN_lt hc) 8 (by decide) 8 rfl]
      have := and_pow (stN c) 3
      rw [show (2 : Nat) ^ 3 = 8 by decide] at this
      cases hb : (stN c).testBit 3
      · rw [this.mpr hb]; rfl
      · simp only [Bool.not_true, beq_eq_false_iff_ne]
        intro h
        have h' : stN c &&& 8 = 0 := by omega
        rw [this, hb] at h'
        cases h'
    cases hb : (stN c).testBit 3
    · rw [hb] at e8
      have hq : penBc c p = false := pen_quiet q3 hb
      rw [hq] at HA
      exact walk_quiet c p _ _ hy (decide_eq_false p3) (decide_eq_true q3) e8 HA so
    · rw [hb] at e8
      exact walk_high c p _ _ n0 n1 _ hy (decide_eq_false p3) (decide_eq_true q3) e8 HA so

set_option maxRecDepth 100000 in
theorem lifted (os : Os) (started : os.Started) (H : Type) (enc : TypeId × Value → H) :
    ReturnsInHanded {} Tryd.checked os 3 .any (fun w args => (Rows.trapFirstSpec.pre enc Tryd.prog Tryd.f3 [] false w args ∧ laidMetH Tryd.prog laid2 w) ∧ sizedMet enc Tryd.prog Tryd.f3 (OpenSpec.ofChange Rows.trapFirstSpec) false w args) (Rows.trapFirstSpec.post enc Tryd.prog Tryd.f3 false true false false) := by
  refine returnsInHanded_of_change_and (C := Tryd.checked) (X := fun w _ => laidMetH Tryd.prog laid2 w) (fun _ _ _ hh h => h.of_heap hh) own started (by kernel_rfl) Tryd.func3
    (ChangeSpec.witness_shaped (enc := enc) (C := Tryd.checked) (os := os) (X := fun w _ => laidMetH Tryd.prog laid2 w) false (World.doorLaid Tryd.prog 400 os) #[.agg #[.int .u64 0, .int .u64 0, .int .u64 0, .int .u64 0, .int .u64 0, .int .u64 0, .int .u64 0, .int .u64 0, .int .u64 0, .int .u64 0, .int .u64 0, .int .u64 0, .int .u64 0, .int .u64 0, .int .u64 0, .int .u64 0, .int .u64 0], .int .i64 0] 8 rfl (World.shaped_of_RefB (by kernel_rfl) (by kernel_rfl)) (by kernel_rfl) (by kernel_rfl) (by kernel_rfl) (door_met os _)) ?_
  intro W base args ds gs before hval0 hW _ _ hL _
  obtain ⟨a0, a1, sn⟩ := sen_of_laid hL
  have hval : ∀ (j : Nat) t v, Tryd.f3.params[j]? = some t → args[j]? = some v → Value.okWide Tryd.prog W .any base t v := hval0
  have hW' := hW
  obtain ⟨p, q, hA0, hV, rfl, hfz, hnd⟩ := hW
  have hA : DataW.TrodAll enc Tryd.prog W 0 (fun _ => true) true Tryd.f3.params.toList args.toList ds p := hA0
  rw [Tryd.params3] at hA hval
  obtain ⟨v0, vs0, d0, ds0, p0, q0, hargs, rfl, rfl, h0, r'0⟩ := trodAll_cons hA
  obtain ⟨v1, vs1, d1, ds1, p1, q1, rfl, rfl, rfl, h1, r'1⟩ := trodAll_cons r'0
  obtain ⟨rfl, rfl, rfl⟩ := trodAll_nil r'1
  obtain rfl : args = #[v0, v1] := by cases args; simp_all
  obtain ⟨c0, rfl, k0⟩ := open_csrs (hval 0 24 v0 rfl rfl) h0
  obtain ⟨a1, rfl, rfl, rfl, w1⟩ := open_int Tryd.underlying3 (hval 1 3 v1 rfl rfl) h1
  refine (walk c0 k0 a1 (wf_i64 w1) sn).mono fun e W' ⟨he, hb⟩ => ?_
  subst he
  exact ⟨_, rfl, law_post hW' rfl rfl laid (by kernel_rfl) rfl Tryd.underlying4 hb⟩

theorem over : Rows.trapFirstRow.holds Tryd.pinned (OpenSpec.ofChange Rows.trapFirstSpec) :=
  OpenClaim.holds_of_wide 3 Tryd.f3 rfl rfl rfl rfl rfl rfl rfl ⟨rfl, rfl, rfl, rfl, rfl⟩ rfl rfl rfl rfl rfl (by kernel_rfl) Tryd.func3 (by kernel_rfl)
    (of_decide_eq_true (by kernel_rfl)) (by unfold Func.isWrapper; first | (rw [if_pos (by decide +kernel)]; kernel_rfl) | (rw [if_neg (by decide +kernel)]; exact ⟨rfl, rfl⟩))
    (fun os started H enc _ => lifted os started H enc)

theorem proved : Rows.TrapFirstCardSaid :=
  Claim7.holds_tied_plain_at .later [] Rows.trapFirstCard.laidKinds true Rows.trapFirstCard.stood.harness Rows.trapFirstCard.stood.looks
    over (fun _ h => by cases h) (by kernel_rfl) (fun _ h => by cases h) trapFirst_row_tie rfl ⟨rfl, rfl⟩ (by kernel_rfl) rfl
    (fun f fn hf hfn => by
      obtain rfl : f = 3 := Option.some.inj ((show Tryd.prog.funcNamed "drawbridge/drawbridgelaw06.TrapFirst" = some 3 by kernel_rfl).symm.trans hf) |>.symm
      obtain rfl : fn = Tryd.f3 := (Option.some.inj (Tryd.func3.symm.trans hfn)).symm
      exact ⟨by kernel_rfl, fun j t ht => by
        have hall : (Tryd.f3.params.toList.all fun u => !Tryd.prog.wantsStandIn u) = true := by kernel_rfl
        have hm : t ∈ Tryd.f3.params.toList := by simpa using Array.mem_of_getElem? ht
        exact (show Tryd.prog.wantsStandIn t = false by simpa using List.all_eq_true.1 hall t hm)⟩)
    (by kernel_rfl)
#print axioms proved
end Go.Proofs.YtbkbbcfhmjodlaaDoor.TrapFirst
