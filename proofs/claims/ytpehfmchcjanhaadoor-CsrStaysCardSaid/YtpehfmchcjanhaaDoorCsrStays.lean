/-
  The statement CsrStays: for all registers, number, privilege and value: where Write refuses, the registers are as they were; where it writes, registers that may be stay so. Conditions: none but those of the statement's row (the two package variables as the text lays them).
-/
import Derived.Test.YtpehfmchcjanhaaDoorCsrJ
import Derived.Test.YtpehfmchcjanhaaDoorCsrK
import Derived.Test.YtpehfmchcjanhaaDoorCsrL
import Derived.Test.YtpehfmchcjanhaaDoorCards
import Derived.Test.YtpehfmchcjanhaaDoorTie
import Derived.SevenTiedAt
set_option linter.unusedVariables false
set_option linter.unusedSimpArgs false
namespace Go.Proofs.YtpehfmchcjanhaaDoor.CsrStays
open Go.ChangeShapes Go.WideShapes Go.ChangeAt Go.RowKit

set_option maxRecDepth 100000 in
set_option maxHeartbeats 1000000 in
theorem walk_no (c : Nat → Int) (n p x : Int) {a0 a1 : Addr} (HA : ∀ {W w : World}, Sen W a0 a1 → Grew W w → Calls Tryd.prog 10 #[csV c, .int .i64 n, .int .i64 p, .int .u64 x] w fun e w' => e = .returned (.tuple #[csV c, .bool false]) ∧ Grew W w') {W : World} (sn : Sen W a0 a1) :
    Calls Tryd.prog 5 #[csV c, .int .i64 n, .int .i64 p, .int .u64 x] W fun e w' => e = .returned (.bool true) ∧ Below W.heap.size W w' := by
  have g0 := (Grew.refl W).alloc (.cells (csA c) 24)
  have hq := cs_eql c
  go_enter Tryd.func5, Tryd.ntmps5
  go_wp2_with (first
    | ((with_reducible refine ld_cs rfl (.tmp 4) rfl _ rfl (Blk.new W _ _ _ rfl) ?_ ?_); (rotate_left 1))
    | fail)
  refine (HA (sn.grew g0) (Grew.refl _)).mono ?_
  rintro e w1 ⟨rfl, h1⟩
  have g1 := g0.trans h1
  have k1 := (Blk.new W (csA c) 24 _ rfl).grew h1
  have n1 := k1.lt
  clear HA h1 g0
  go_wp2_with (first
    | ((with_reducible refine st_csG rfl (.tmp 9) (.tmp 17) rfl rfl c (Blk.new w1 _ _ _ rfl) ?_ ?_ ?_ (g1.alloc _) (Nat.le_of_lt n1) ?_); (rotate_left 3); intro w2 j2 g2 o2 _; have k2 := o2 _ _ _ (by omega) (k1.alloc _); clear o2)
    | ((with_reducible refine ld_cs rfl (.tmp 9) rfl _ rfl j2 ?_ ?_); (rotate_left 1))
    | ((with_reducible refine ld_cs rfl (.tmp 4) rfl _ rfl k2 ?_ ?_); (rotate_left 1))
    | fail)
  refine (heads_c (sn.grew g2) (Grew.refl _)).mono ?_
  rintro e w3 ⟨rfl, h3⟩
  have g3 := g2.trans h3
  go_wp2_with fail
  · go_ret
    exact ⟨rfl, g3⟩
  all_goals rfl

set_option maxRecDepth 100000 in
set_option maxHeartbeats 1000000 in
theorem walk_bad (c d : Nat → Int) (n p x : Int) {a0 a1 : Addr} (HA : ∀ {W w : World}, Sen W a0 a1 → Grew W w → Calls Tryd.prog 10 #[csV c, .int .i64 n, .int .i64 p, .int .u64 x] w fun e w' => e = .returned (.tuple #[csV d, .bool true]) ∧ Grew W w') (H1 : ∀ {W w : World}, Grew W w → Calls Tryd.prog 8 #[csV c] w fun e w' => e = .returned (.bool false) ∧ Grew W w') {W : World} (sn : Sen W a0 a1) :
    Calls Tryd.prog 5 #[csV c, .int .i64 n, .int .i64 p, .int .u64 x] W fun e w' => e = .returned (.bool true) ∧ Below W.heap.size W w' := by
  have g0 := (Grew.refl W).alloc (.cells (csA c) 24)
  have hq := cs_eql c
  go_enter Tryd.func5, Tryd.ntmps5
  go_wp2_with (first
    | ((with_reducible refine ld_cs rfl (.tmp 4) rfl _ rfl (Blk.new W _ _ _ rfl) ?_ ?_); (rotate_left 1))
    | fail)
  refine (HA (sn.grew g0) (Grew.refl _)).mono ?_
  rintro e w1 ⟨rfl, h1⟩
  have g1 := g0.trans h1
  have k1 := (Blk.new W (csA c) 24 _ rfl).grew h1
  have n1 := k1.lt
  clear HA h1 g0
  go_wp2_with (first
    | ((with_reducible refine st_csG rfl (.tmp 9) (.tmp 17) rfl rfl d (Blk.new w1 _ _ _ rfl) ?_ ?_ ?_ (g1.alloc _) (Nat.le_of_lt n1) ?_); (rotate_left 3); intro w2 j2 g2 o2 _; have k2 := o2 _ _ _ (by omega) (k1.alloc _); clear o2)
    | ((with_reducible refine ld_cs rfl (.tmp 4) rfl _ rfl k2 ?_ ?_); (rotate_left 1))
    | fail)
  refine (H1 (Grew.refl _)).mono ?_
  rintro e w3 ⟨rfl, h3⟩
  have g3 := g2.trans h3
  clear H1
  go_wp2_with fail
  refine (heads_c (sn.grew g3) (Grew.refl _)).mono ?_
  rintro e w4 ⟨rfl, h4⟩
  have g4 := g3.trans h4
  go_wp2_with fail
  · go_ret
    exact ⟨rfl, g4⟩
  all_goals rfl

set_option maxRecDepth 100000 in
set_option maxHeartbeats 1000000 in
theorem walk_yes (c d : Nat → Int) (n p x : Int) {a0 a1 : Addr} (HA : ∀ {W w : World}, Sen W a0 a1 → Grew W w → Calls Tryd.prog 10 #[csV c, .int .i64 n, .int .i64 p, .int .u64 x] w fun e w' => e = .returned (.tuple #[csV d, .bool true]) ∧ Grew W w') (H1 : ∀ {W w : World}, Grew W w → Calls Tryd.prog 8 #[csV c] w fun e w' => e = .returned (.bool true) ∧ Grew W w') (H2 : ∀ {W w : World}, Grew W w → Calls Tryd.prog 8 #[csV d] w fun e w' => e = .returned (.bool true) ∧ Grew W w') {W : World} (sn : Sen W a0 a1) :
    Calls Tryd.prog 5 #[csV c, .int .i64 n, .int .i64 p, .int .u64 x] W fun e w' => e = .returned (.bool true) ∧ Below W.heap.size W w' := by
  have g0 := (Grew.refl W).alloc (.cells (csA c) 24)
  have hq := cs_eql c
  go_enter Tryd.func5, Tryd.ntmps5
  go_wp2_with (first
    | ((with_reducible refine ld_cs rfl (.tmp 4) rfl _ rfl (Blk.new W _ _ _ rfl) ?_ ?_); (rotate_left 1))
    | fail)
  refine (HA (sn.grew g0) (Grew.refl _)).mono ?_
  rintro e w1 ⟨rfl, h1⟩
  have g1 := g0.trans h1
  have k1 := (Blk.new W (csA c) 24 _ rfl).grew h1
  have n1 := k1.lt
  clear HA h1 g0
  go_wp2_with (first
    | ((with_reducible refine st_csG rfl (.tmp 9) (.tmp 17) rfl rfl d (Blk.new w1 _ _ _ rfl) ?_ ?_ ?_ (g1.alloc _) (Nat.le_of_lt n1) ?_); (rotate_left 3); intro w2 j2 g2 o2 _; have k2 := o2 _ _ _ (by omega) (k1.alloc _); clear o2)
    | ((with_reducible refine ld_cs rfl (.tmp 4) rfl _ rfl k2 ?_ ?_); (rotate_left 1))
    | fail)
  refine (H1 (Grew.refl _)).mono ?_
  rintro e w3 ⟨rfl, h3⟩
  have g3 := g2.trans h3
  have j3 := j2.grew h3
  clear H1
  go_wp2_with (first
    | ((with_reducible refine lw_cs ?_ (.tmp 9) rfl _ rfl j3 ?_ ?_); (rotate_left 2))
    | fail)
  refine (H2 (Grew.refl _)).mono ?_
  rintro e w4 ⟨rfl, h4⟩
  have g4 := g3.trans h4
  clear H2
  go_wp2_with fail
  refine (heads_c (sn.grew g4) (Grew.refl _)).mono ?_
  rintro e w5 ⟨rfl, h5⟩
  have g5 := g4.trans h5
  go_wp2_with fail
  · go_ret
    exact ⟨rfl, g5⟩
  all_goals rfl

theorem walk (c : Nat → Int) (hc : csOk c) (n : Int) (hn : -9223372036854775808 ≤ n ∧ n ≤ 9223372036854775807) (p : Int) (hp : -9223372036854775808 ≤ p ∧ p ≤ 9223372036854775807) (x : Int) (hx : 0 ≤ x ∧ x < 18446744073709551616) {a0 a1 : Addr} {W : World} (sn : Sen W a0 a1) :
    Calls Tryd.prog 5 #[csV c, .int .i64 n, .int .i64 p, .int .u64 x] W fun e w' => e = .returned (.bool true) ∧ Below W.heap.size W w' := by
  obtain ⟨h0, h1⟩ := hx
  cases hb : wrB c n p
  · exact walk_no c n p x (fun sn hg => Write_no c n p x hb sn hg) sn
  · cases hk : chkB c
    · exact walk_bad c (wrV c n x) n p x (fun sn hg => Write_yes c n p x h0 h1 hb sn hg) (fun hg => by have := check_c c hc hg; rwa [hk] at this) sn
    · refine walk_yes c (wrV c n x) n p x (fun sn hg => Write_yes c n p x h0 h1 hb sn hg) (fun hg => by have := check_c c hc hg; rwa [hk] at this) (fun hg => ?_) sn
      have := check_c (wrV c n x) (wrV_ok c hc n x h0 h1) hg
      rwa [chk_stays c hc n x h0 h1 hk] at this

set_option maxRecDepth 100000 in
theorem lifted (os : Os) (started : os.Started) (H : Type) (enc : TypeId × Value → H) :
    ReturnsInHanded {} Tryd.checked os 5 .any (fun w args => (Rows.csrStaysSpec.pre enc Tryd.prog Tryd.f5 [] false w args ∧ laidMetH Tryd.prog laid2 w) ∧ sizedMet enc Tryd.prog Tryd.f5 (OpenSpec.ofChange Rows.csrStaysSpec) false w args) (Rows.csrStaysSpec.post enc Tryd.prog Tryd.f5 false true false false) := by
  refine returnsInHanded_of_change_and (C := Tryd.checked) (X := fun w _ => laidMetH Tryd.prog laid2 w) (fun _ _ _ hh h => h.of_heap hh) own started (by kernel_rfl) Tryd.func5
    (ChangeSpec.witness_shaped (enc := enc) (C := Tryd.checked) (os := os) (X := fun w _ => laidMetH Tryd.prog laid2 w) false (World.doorLaid Tryd.prog 400 os) #[.agg #[.int .u64 0, .int .u64 0, .int .u64 0, .int .u64 0, .int .u64 0, .int .u64 0, .int .u64 0, .int .u64 0, .int .u64 0, .int .u64 0, .int .u64 0, .int .u64 0, .int .u64 0, .int .u64 0, .int .u64 0, .int .u64 0, .int .u64 0], .int .i64 0, .int .i64 0, .int .u64 0] 8 rfl (World.shaped_of_RefB (by kernel_rfl) (by kernel_rfl)) (by kernel_rfl) (by kernel_rfl) (by kernel_rfl) (door_met os _)) ?_
  intro W base args ds gs before hval0 hW _ _ hL _
  obtain ⟨a0, a1, sn⟩ := sen_of_laid hL
  have hval : ∀ (j : Nat) t v, Tryd.f5.params[j]? = some t → args[j]? = some v → Value.okWide Tryd.prog W .any base t v := hval0
  have hW' := hW
  obtain ⟨p, q, hA0, hV, rfl, hfz, hnd⟩ := hW
  have hA : DataW.TrodAll enc Tryd.prog W 0 (fun _ => true) true Tryd.f5.params.toList args.toList ds p := hA0
  rw [Tryd.params5] at hA hval
  obtain ⟨v0, vs0, d0, ds0, p0, q0, hargs, rfl, rfl, h0, r'0⟩ := trodAll_cons hA
  obtain ⟨v1, vs1, d1, ds1, p1, q1, rfl, rfl, rfl, h1, r'1⟩ := trodAll_cons r'0
  obtain ⟨v2, vs2, d2, ds2, p2, q2, rfl, rfl, rfl, h2, r'2⟩ := trodAll_cons r'1
  obtain ⟨v3, vs3, d3, ds3, p3, q3, rfl, rfl, rfl, h3, r'3⟩ := trodAll_cons r'2
  obtain ⟨rfl, rfl, rfl⟩ := trodAll_nil r'3
  obtain rfl : args = #[v0, v1, v2, v3] := by cases args; simp_all
  obtain ⟨c0, rfl, k0⟩ := open_csrs (hval 0 24 v0 rfl rfl) h0
  obtain ⟨a1, rfl, rfl, rfl, w1⟩ := open_int Tryd.underlying3 (hval 1 3 v1 rfl rfl) h1
  obtain ⟨a2, rfl, rfl, rfl, w2⟩ := open_int Tryd.underlying3 (hval 2 3 v2 rfl rfl) h2
  obtain ⟨a3, rfl, rfl, rfl, w3⟩ := open_int Tryd.underlying22 (hval 3 22 v3 rfl rfl) h3
  refine (walk c0 k0 a1 (wf_i64 w1) a2 (wf_i64 w2) a3 (wf_u64 w3) sn).mono fun e W' ⟨he, hb⟩ => ?_
  subst he
  exact ⟨_, rfl, law_post hW' rfl rfl laid (by kernel_rfl) rfl Tryd.underlying4 hb⟩

theorem over : Rows.csrStaysRow.holds Tryd.pinned (OpenSpec.ofChange Rows.csrStaysSpec) :=
  OpenClaim.holds_of_wide 5 Tryd.f5 rfl rfl rfl rfl rfl rfl rfl ⟨rfl, rfl, rfl, rfl, rfl⟩ rfl rfl rfl rfl rfl (by kernel_rfl) Tryd.func5 (by kernel_rfl)
    (of_decide_eq_true (by kernel_rfl)) (by unfold Func.isWrapper; first | (rw [if_pos (by decide +kernel)]; kernel_rfl) | (rw [if_neg (by decide +kernel)]; exact ⟨rfl, rfl⟩))
    (fun os started H enc _ => lifted os started H enc)

theorem proved : Rows.CsrStaysCardSaid :=
  Claim7.holds_tied_plain_at .later [] Rows.csrStaysCard.laidKinds true Rows.csrStaysCard.stood.harness Rows.csrStaysCard.stood.looks
    over (fun _ h => by cases h) (by kernel_rfl) (fun _ h => by cases h) csrStays_row_tie rfl ⟨rfl, rfl⟩ (by kernel_rfl) rfl
    (fun f fn hf hfn => by
      obtain rfl : f = 5 := Option.some.inj ((show Tryd.prog.funcNamed "drawbridge/drawbridgelaw05.CsrStays" = some 5 by kernel_rfl).symm.trans hf) |>.symm
      obtain rfl : fn = Tryd.f5 := (Option.some.inj (Tryd.func5.symm.trans hfn)).symm
      exact ⟨by kernel_rfl, fun j t ht => by
        have hall : (Tryd.f5.params.toList.all fun u => !Tryd.prog.wantsStandIn u) = true := by kernel_rfl
        have hm : t ∈ Tryd.f5.params.toList := by simpa using Array.mem_of_getElem? ht
        exact (show Tryd.prog.wantsStandIn t = false by simpa using List.all_eq_true.1 hall t hm)⟩)
    (by kernel_rfl)
#print axioms proved
end Go.Proofs.YtpehfmchcjanhaaDoor.CsrStays
