/-
  The statement CsrAgain: for all registers that may be, number, privilege and value: what is read, written back, changes nothing, and what is written twice is as if written once. Conditions: none but those of the statement's row (the two package variables as the text lays them).
-/
import Derived.Test.YtpehfmchcjanhaaDoorCsrJ
import Derived.Test.YtpehfmchcjanhaaDoorCsrK
import Derived.Test.YtpehfmchcjanhaaDoorCsrL
import Derived.Test.YtpehfmchcjanhaaDoorCards
import Derived.Test.YtpehfmchcjanhaaDoorTie
import Derived.SevenTiedAt
set_option linter.unusedVariables false
set_option linter.unusedSimpArgs false
namespace Go.Proofs.YtpehfmchcjanhaaDoor.CsrAgain
open Go.ChangeShapes Go.WideShapes Go.ChangeAt Go.RowKit

set_option maxRecDepth 100000 in
set_option maxHeartbeats 1000000 in
theorem walk_bad (c : Nat → Int) (n p x : Int) {a0 a1 : Addr} (H1 : ∀ {W w : World}, Grew W w → Calls Tryd.prog 8 #[csV c] w fun e w' => e = .returned (.bool false) ∧ Grew W w') {W : World} (sn : Sen W a0 a1) :
    Calls Tryd.prog 6 #[csV c, .int .i64 n, .int .i64 p, .int .u64 x] W fun e w' => e = .returned (.bool true) ∧ Below W.heap.size W w' := by
  have g0 := (Grew.refl W).alloc (.cells (csA c) 24)
  go_enter Tryd.func6, Tryd.ntmps6
  go_wp2_with (first
    | ((with_reducible refine ld_cs rfl (.tmp 4) rfl _ rfl (Blk.new W _ _ _ rfl) ?_ ?_); (rotate_left 1))
    | fail)
  refine (H1 (Grew.refl _)).mono ?_
  rintro e w1 ⟨rfl, h1⟩
  have g1 := g0.trans h1
  clear H1
  go_wp2_with fail
  refine (heads_c (sn.grew g1) (Grew.refl _)).mono ?_
  rintro e w2 ⟨rfl, h2⟩
  have g2 := g1.trans h2
  go_wp2_with fail
  · go_ret
    exact ⟨rfl, g2⟩
  all_goals rfl

set_option maxRecDepth 100000 in
set_option maxHeartbeats 1000000 in
theorem walk_no (c : Nat → Int) (n p x v : Int) (o : Bool) {a0 a1 : Addr} (H1 : ∀ {W w : World}, Grew W w → Calls Tryd.prog 8 #[csV c] w fun e w' => e = .returned (.bool true) ∧ Grew W w') (HR : ∀ {W w : World}, Sen W a0 a1 → Grew W w → Calls Tryd.prog 11 #[csV c, .int .i64 n, .int .i64 p] w fun e w' => e = .returned (.tuple #[.int .u64 v, .bool o]) ∧ Grew W w')
    (HW : ∀ {W w : World}, Sen W a0 a1 → Grew W w → Calls Tryd.prog 10 #[csV c, .int .i64 n, .int .i64 p, .int .u64 v] w fun e w' => e = .returned (.tuple #[csV c, .bool false]) ∧ Grew W w')
    (HX : ∀ {W w : World}, Sen W a0 a1 → Grew W w → Calls Tryd.prog 10 #[csV c, .int .i64 n, .int .i64 p, .int .u64 x] w fun e w' => e = .returned (.tuple #[csV c, .bool false]) ∧ Grew W w')
    (HY : ∀ {W w : World}, Sen W a0 a1 → Grew W w → Calls Tryd.prog 10 #[csV c, .int .i64 n, .int .i64 p, .int .u64 x] w fun e w' => e = .returned (.tuple #[csV c, .bool false]) ∧ Grew W w') {W : World} (sn : Sen W a0 a1) :
    Calls Tryd.prog 6 #[csV c, .int .i64 n, .int .i64 p, .int .u64 x] W fun e w' => e = .returned (.bool true) ∧ Below W.heap.size W w' := by
  have g0 := (Grew.refl W).alloc (.cells (csA c) 24)
  have hq := cs_eql c
  have hq' := cs_eql c
  go_enter Tryd.func6, Tryd.ntmps6
  go_wp2_with (first
    | ((with_reducible refine ld_cs rfl (.tmp 4) rfl _ rfl (Blk.new W _ _ _ rfl) ?_ ?_); (rotate_left 1))
    | fail)
  refine (H1 (Grew.refl _)).mono ?_
  rintro e w1 ⟨rfl, h1⟩
  have g1 := g0.trans h1
  have k1 := (Blk.new W (csA c) 24 _ rfl).grew h1
  clear H1 h1 g0
  go_wp2_with (first
    | ((with_reducible refine ld_cs rfl (.tmp 4) rfl _ rfl k1 ?_ ?_); (rotate_left 1))
    | fail)
  refine (HR (sn.grew g1) (Grew.refl _)).mono ?_
  rintro e w2 ⟨rfl, h2⟩
  have g2 := g1.trans h2
  have k2 := k1.grew h2
  clear HR h2 k1
  go_wp2_with (first
    | ((with_reducible refine ld_cs rfl (.tmp 4) rfl _ rfl k2 ?_ ?_); (rotate_left 1))
    | fail)
  refine (HW (sn.grew g2) (Grew.refl _)).mono ?_
  rintro e w3 ⟨rfl, h3⟩
  have g3 := g2.trans h3
  have k3 := k2.grew h3
  have n3 := k3.lt
  clear HW h3 k2
  go_wp2_with (first
    | ((with_reducible refine st_csG rfl (.tmp 11) (.tmp 34) rfl rfl c (Blk.new w3 _ _ _ rfl) ?_ ?_ ?_ (g3.alloc _) (Nat.le_of_lt n3) ?_); (rotate_left 3); intro w4 i4 g4 o4 _; have k4 := o4 _ _ _ (by omega) (k3.alloc _); clear o4)
    | ((with_reducible refine ld_cs rfl (.tmp 4) rfl _ rfl k4 ?_ ?_); (rotate_left 1))
    | fail)
  refine (HX (sn.grew g4) (Grew.refl _)).mono ?_
  rintro e w5 ⟨rfl, h5⟩
  have g5 := g4.trans h5
  have k5 := k4.grew h5
  have i5 := i4.grew h5
  have n5 := k5.lt
  have m5 := i5.lt
  clear HX h5 k4 i4
  go_wp2_with (first
    | ((with_reducible refine st_csG rfl (.tmp 13) (.tmp 42) rfl rfl c (Blk.new w5 _ _ _ rfl) ?_ ?_ ?_ (g5.alloc _) (Nat.le_of_lt n5) ?_); (rotate_left 3); intro w6 j6 g6 o6 _; have k6 := o6 _ _ _ (by omega) (k5.alloc _); have i6 := o6 _ _ _ (by omega) (i5.alloc _); clear o6)
    | ((with_reducible refine ld_cs rfl (.tmp 13) rfl _ rfl j6 ?_ ?_); (rotate_left 1))
    | fail)
  refine (HY (sn.grew g6) (Grew.refl _)).mono ?_
  rintro e w7 ⟨rfl, h7⟩
  have g7 := g6.trans h7
  have k7 := k6.grew h7
  have i7 := i6.grew h7
  have j7 := j6.grew h7
  have n7 := k7.lt
  have m7 := i7.lt
  have l7 := j7.lt
  clear HY h7 k6 i6 j6
  go_wp2_with (first
    | ((with_reducible refine st_csG rfl (.tmp 15) (.tmp 50) rfl rfl c (Blk.new w7 _ _ _ rfl) ?_ ?_ ?_ (g7.alloc _) (Nat.le_of_lt n7) ?_); (rotate_left 3); intro w8 q8 g8 o8 _; have k8 := o8 _ _ _ (by omega) (k7.alloc _); have i8 := o8 _ _ _ (by omega) (i7.alloc _); have j8 := o8 _ _ _ (by omega) (j7.alloc _); clear o8)
    | ((with_reducible refine ld_cs rfl (.tmp 11) rfl _ rfl i8 ?_ ?_); (rotate_left 1))
    | ((with_reducible refine ld_cs rfl (.tmp 4) rfl _ rfl k8 ?_ ?_); (rotate_left 1))
    | ((with_reducible refine lw_cs ?_ (.tmp 13) rfl _ rfl j8 ?_ ?_); (rotate_left 2))
    | ((with_reducible refine lw_cs ?_ (.tmp 15) rfl _ rfl q8 ?_ ?_); (rotate_left 2))
    | fail)
  refine (heads_c (sn.grew g8) (Grew.refl _)).mono ?_
  rintro e w9 ⟨rfl, h9⟩
  have g9 := g8.trans h9
  go_wp2_with fail
  · go_ret
    exact ⟨rfl, g9⟩
  all_goals rfl

set_option maxRecDepth 100000 in
set_option maxHeartbeats 1000000 in
theorem walk_yes (c y : Nat → Int) (n p x v : Int) {a0 a1 : Addr} (H1 : ∀ {W w : World}, Grew W w → Calls Tryd.prog 8 #[csV c] w fun e w' => e = .returned (.bool true) ∧ Grew W w') (HR : ∀ {W w : World}, Sen W a0 a1 → Grew W w → Calls Tryd.prog 11 #[csV c, .int .i64 n, .int .i64 p] w fun e w' => e = .returned (.tuple #[.int .u64 v, .bool true]) ∧ Grew W w')
    (HW : ∀ {W w : World}, Sen W a0 a1 → Grew W w → Calls Tryd.prog 10 #[csV c, .int .i64 n, .int .i64 p, .int .u64 v] w fun e w' => e = .returned (.tuple #[csV c, .bool true]) ∧ Grew W w')
    (HX : ∀ {W w : World}, Sen W a0 a1 → Grew W w → Calls Tryd.prog 10 #[csV c, .int .i64 n, .int .i64 p, .int .u64 x] w fun e w' => e = .returned (.tuple #[csV y, .bool true]) ∧ Grew W w')
    (HY : ∀ {W w : World}, Sen W a0 a1 → Grew W w → Calls Tryd.prog 10 #[csV y, .int .i64 n, .int .i64 p, .int .u64 x] w fun e w' => e = .returned (.tuple #[csV y, .bool true]) ∧ Grew W w') {W : World} (sn : Sen W a0 a1) :
    Calls Tryd.prog 6 #[csV c, .int .i64 n, .int .i64 p, .int .u64 x] W fun e w' => e = .returned (.bool true) ∧ Below W.heap.size W w' := by
  have g0 := (Grew.refl W).alloc (.cells (csA c) 24)
  have hq := cs_eql c
  have hq' := cs_eql y
  go_enter Tryd.func6, Tryd.ntmps6
  go_wp2_with (first
    | ((with_reducible refine ld_cs rfl (.tmp 4) rfl _ rfl (Blk.new W _ _ _ rfl) ?_ ?_); (rotate_left 1))
    | fail)
  refine (H1 (Grew.refl _)).mono ?_
  rintro e w1 ⟨rfl, h1⟩
  have g1 := g0.trans h1
  have k1 := (Blk.new W (csA c) 24 _ rfl).grew h1
  clear H1 h1 g0
  go_wp2_with (first
    | ((with_reducible refine ld_cs rfl (.tmp 4) rfl _ rfl k1 ?_ ?_); (rotate_left 1))
    | fail)
  refine (HR (sn.grew g1) (Grew.refl _)).mono ?_
  rintro e w2 ⟨rfl, h2⟩
  have g2 := g1.trans h2
  have k2 := k1.grew h2
  clear HR h2 k1
  go_wp2_with (first
    | ((with_reducible refine ld_cs rfl (.tmp 4) rfl _ rfl k2 ?_ ?_); (rotate_left 1))
    | fail)
  refine (HW (sn.grew g2) (Grew.refl _)).mono ?_
  rintro e w3 ⟨rfl, h3⟩
  have g3 := g2.trans h3
  have k3 := k2.grew h3
  have n3 := k3.lt
  clear HW h3 k2
  go_wp2_with (first
    | ((with_reducible refine st_csG rfl (.tmp 11) (.tmp 34) rfl rfl c (Blk.new w3 _ _ _ rfl) ?_ ?_ ?_ (g3.alloc _) (Nat.le_of_lt n3) ?_); (rotate_left 3); intro w4 i4 g4 o4 _; have k4 := o4 _ _ _ (by omega) (k3.alloc _); clear o4)
    | ((with_reducible refine ld_cs rfl (.tmp 4) rfl _ rfl k4 ?_ ?_); (rotate_left 1))
    | fail)
  refine (HX (sn.grew g4) (Grew.refl _)).mono ?_
  rintro e w5 ⟨rfl, h5⟩
  have g5 := g4.trans h5
  have k5 := k4.grew h5
  have i5 := i4.grew h5
  have n5 := k5.lt
  have m5 := i5.lt
  clear HX h5 k4 i4
  go_wp2_with (first
    | ((with_reducible refine st_csG rfl (.tmp 13) (.tmp 42) rfl rfl y (Blk.new w5 _ _ _ rfl) ?_ ?_ ?_ (g5.alloc _) (Nat.le_of_lt n5) ?_); (rotate_left 3); intro w6 j6 g6 o6 _; have k6 := o6 _ _ _ (by omega) (k5.alloc _); have i6 := o6 _ _ _ (by omega) (i5.alloc _); clear o6)
    | ((with_reducible refine ld_cs rfl (.tmp 13) rfl _ rfl j6 ?_ ?_); (rotate_left 1))
    | fail)
  refine (HY (sn.grew g6) (Grew.refl _)).mono ?_
  rintro e w7 ⟨rfl, h7⟩
  have g7 := g6.trans h7
  have k7 := k6.grew h7
  have i7 := i6.grew h7
  have j7 := j6.grew h7
  have n7 := k7.lt
  have m7 := i7.lt
  have l7 := j7.lt
  clear HY h7 k6 i6 j6
  go_wp2_with (first
    | ((with_reducible refine st_csG rfl (.tmp 15) (.tmp 50) rfl rfl y (Blk.new w7 _ _ _ rfl) ?_ ?_ ?_ (g7.alloc _) (Nat.le_of_lt n7) ?_); (rotate_left 3); intro w8 q8 g8 o8 _; have k8 := o8 _ _ _ (by omega) (k7.alloc _); have i8 := o8 _ _ _ (by omega) (i7.alloc _); have j8 := o8 _ _ _ (by omega) (j7.alloc _); clear o8)
    | ((with_reducible refine ld_cs rfl (.tmp 11) rfl _ rfl i8 ?_ ?_); (rotate_left 1))
    | ((with_reducible refine ld_cs rfl (.tmp 4) rfl _ rfl k8 ?_ ?_); (rotate_left 1))
    | ((with_reducible refine lw_cs ?_ (.tmp 13) rfl _ rfl j8 ?_ ?_); (rotate_left 2))
    | ((with_reducible refine lw_cs ?_ (.tmp 15) rfl _ rfl q8 ?_ ?_); (rotate_left 2))
    | fail)
  refine (heads_c (sn.grew g8) (Grew.refl _)).mono ?_
  rintro e w9 ⟨rfl, h9⟩
  have g9 := g8.trans h9
  go_wp2_with fail
  · go_ret
    exact ⟨rfl, g9⟩
  all_goals rfl

theorem walk (c : Nat → Int) (hc : csOk c) (n : Int) (hn : -9223372036854775808 ≤ n ∧ n ≤ 9223372036854775807) (p : Int) (hp : -9223372036854775808 ≤ p ∧ p ≤ 9223372036854775807) (x : Int) (hx : 0 ≤ x ∧ x < 18446744073709551616) {a0 a1 : Addr} {W : World} (sn : Sen W a0 a1) :
    Calls Tryd.prog 6 #[csV c, .int .i64 n, .int .i64 p, .int .u64 x] W fun e w' => e = .returned (.bool true) ∧ Below W.heap.size W w' := by
  obtain ⟨h0, h1⟩ := hx
  cases hk : chkB c
  · exact walk_bad c n p x (fun hg => by have := check_c c hc hg; rwa [hk] at this) sn
  have H1 : ∀ {W w : World}, Grew W w → Calls Tryd.prog 8 #[csV c] w fun e w' => e = .returned (.bool true) ∧ Grew W w' := fun hg => by have := check_c c hc hg; rwa [hk] at this
  cases hb : wrB c n p
  · cases hr : rdB c n p
    · exact walk_no c n p x 0 false H1 (fun sn hg => Read_no c n p hr sn hg) (fun sn hg => Write_no c n p 0 hb sn hg) (fun sn hg => Write_no c n p x hb sn hg) (fun sn hg => Write_no c n p x hb sn hg) sn
    · obtain ⟨k, hk26, rfl⟩ := in_of_rd hr
      exact walk_no c _ p x (valR c k) true H1 (fun sn hg => Read_yes c k hk26 p hr sn hg) (fun sn hg => Write_no c _ p _ hb sn hg) (fun sn hg => Write_no c _ p x hb sn hg) (fun sn hg => Write_no c _ p x hb sn hg) sn
  · have hr : rdB c n p = true := by
      rw [wrB, Bool.and_eq_true] at hb
      exact hb.1
    obtain ⟨k, hk26, rfl⟩ := in_of_rd hr
    have hv := valR_ok c hc k
    refine walk_yes c (wrV c (nmR k) x) _ p x (valR c k) H1 (fun sn hg => Read_yes c k hk26 p hr sn hg) (fun sn hg => ?_) (fun sn hg => Write_yes c _ p x h0 h1 hb sn hg) (fun sn hg => ?_) sn
    · have := Write_yes c (nmR k) p (valR c k) hv.1 hv.2 hb sn hg
      rwa [wrV_back c hc k hk26 hk] at this
    · have := Write_yes (wrV c (nmR k) x) (nmR k) p x h0 h1 (by rw [wrB_after, hb]) sn hg
      rwa [wrV_twice c hc (nmR k) x h0 h1] at this

set_option maxRecDepth 100000 in
theorem lifted (os : Os) (started : os.Started) (H : Type) (enc : TypeId × Value → H) :
    ReturnsInHanded {} Tryd.checked os 6 .any (fun w args => (Rows.csrAgainSpec.pre enc Tryd.prog Tryd.f6 [] false w args ∧ laidMetH Tryd.prog laid2 w) ∧ sizedMet enc Tryd.prog Tryd.f6 (OpenSpec.ofChange Rows.csrAgainSpec) false w args) (Rows.csrAgainSpec.post enc Tryd.prog Tryd.f6 false true false false) := by
  refine returnsInHanded_of_change_and (C := Tryd.checked) (X := fun w _ => laidMetH Tryd.prog laid2 w) (fun _ _ _ hh h => h.of_heap hh) own started (by kernel_rfl) Tryd.func6
    (ChangeSpec.witness_shaped (enc := enc) (C := Tryd.checked) (os := os) (X := fun w _ => laidMetH Tryd.prog laid2 w) false (World.doorLaid Tryd.prog 400 os) #[.agg #[.int .u64 0, .int .u64 0, .int .u64 0, .int .u64 0, .int .u64 0, .int .u64 0, .int .u64 0, .int .u64 0, .int .u64 0, .int .u64 0, .int .u64 0, .int .u64 0, .int .u64 0, .int .u64 0, .int .u64 0, .int .u64 0, .int .u64 0], .int .i64 0, .int .i64 0, .int .u64 0] 8 rfl (World.shaped_of_RefB (by kernel_rfl) (by kernel_rfl)) (by kernel_rfl) (by kernel_rfl) (by kernel_rfl) (door_met os _)) ?_
  intro W base args ds gs before hval0 hW _ _ hL _
  obtain ⟨a0, a1, sn⟩ := sen_of_laid hL
  have hval : ∀ (j : Nat) t v, Tryd.f6.params[j]? = some t → args[j]? = some v → Value.okWide Tryd.prog W .any base t v := hval0
  have hW' := hW
  obtain ⟨p, q, hA0, hV, rfl, hfz, hnd⟩ := hW
  have hA : DataW.TrodAll enc Tryd.prog W 0 (fun _ => true) true Tryd.f6.params.toList args.toList ds p := hA0
  rw [Tryd.params6] at hA hval
  obtain ⟨v0, vs0, d0, ds0, p0, q0, hargs, rfl, rfl, h0, r'0⟩ := trodAll_cons hA
  obtain ⟨v1, vs1, d1, ds1, p1, q1, rfl, rfl, rfl, h1, r'1⟩ := trodAll_cons r'0
  obtain ⟨v2, vs2, d2, ds2, p2, q2, rfl, rfl, rfl, h2, r'2⟩ := trodAll_cons r'1
  obtain ⟨v3, vs3, d3, ds3, p3, q3, rfl, rfl, rfl, h3, r'3⟩ := trodAll_cons r'2
  obtain ⟨rfl, rfl, rfl⟩ := trodAll_nil r'3
  obtain rfl : args = #[v0, v1, v2, v3] := by cases args; simp_all
  obtain ⟨c0, rfl, k0⟩ := open_csrs (hval 0 24 v0 rfl rfl) h0
  obtain ⟨a1, rfl, rfl, rfl, w1⟩ := open_int Tryd.underlying3 (hval 1 3 v1 rfl rfl) h1
  obtain ⟨a2, rfl, rfl, rfl, w2⟩ := open_int Tryd.underlying3 (hval 2 3 v2 rfl rfl) h2
  obtain ⟨a3, rfl, rfl, rfl, w3⟩ := open_int Tryd.underlying22 (hval 3 22 v3 rfl rfl) h3
  refine (walk c0 k0 a1 (wf_i64 w1) a2 (wf_i64 w2) a3 (wf_u64 w3) sn).mono fun e W' ⟨he, hb⟩ => ?_
  subst he
  exact ⟨_, rfl, law_post hW' rfl rfl laid (by kernel_rfl) rfl Tryd.underlying4 hb⟩

theorem over : Rows.csrAgainRow.holds Tryd.pinned (OpenSpec.ofChange Rows.csrAgainSpec) :=
  OpenClaim.holds_of_wide 6 Tryd.f6 rfl rfl rfl rfl rfl rfl rfl ⟨rfl, rfl, rfl, rfl, rfl⟩ rfl rfl rfl rfl rfl (by kernel_rfl) Tryd.func6 (by kernel_rfl)
    (of_decide_eq_true (by kernel_rfl)) (by unfold Func.isWrapper; first | (rw [if_pos (by decide +kernel)]; kernel_rfl) | (rw [if_neg (by decide +kernel)]; exact ⟨rfl, rfl⟩))
    (fun os started H enc _ => lifted os started H enc)

theorem proved : Rows.CsrAgainCardSaid :=
  Claim7.holds_tied_plain_at .later [] Rows.csrAgainCard.laidKinds true Rows.csrAgainCard.stood.harness Rows.csrAgainCard.stood.looks
    over (fun _ h => by cases h) (by kernel_rfl) (fun _ h => by cases h) csrAgain_row_tie rfl ⟨rfl, rfl⟩ (by kernel_rfl) rfl
    (fun f fn hf hfn => by
      obtain rfl : f = 6 := Option.some.inj ((show Tryd.prog.funcNamed "drawbridge/drawbridgelaw05.CsrAgain" = some 6 by kernel_rfl).symm.trans hf) |>.symm
      obtain rfl : fn = Tryd.f6 := (Option.some.inj (Tryd.func6.symm.trans hfn)).symm
      exact ⟨by kernel_rfl, fun j t ht => by
        have hall : (Tryd.f6.params.toList.all fun u => !Tryd.prog.wantsStandIn u) = true := by kernel_rfl
        have hm : t ∈ Tryd.f6.params.toList := by simpa using Array.mem_of_getElem? ht
        exact (show Tryd.prog.wantsStandIn t = false by simpa using List.all_eq_true.1 hall t hm)⟩)
    (by kernel_rfl)
#print axioms proved
end Go.Proofs.YtpehfmchcjanhaaDoor.CsrAgain
