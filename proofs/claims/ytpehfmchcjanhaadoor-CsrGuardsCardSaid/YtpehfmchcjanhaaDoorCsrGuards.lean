/-
  The statement CsrGuards: for all registers, number from 0 to 4095, privilege from 0 to 3 and value: who has not the privilege neither reads nor writes, and what is only read is not written. Conditions: none but those of the statement's row (the two package variables as the text lays them).
-/
import Derived.Test.YtpehfmchcjanhaaDoorCsrJ
import Derived.Test.YtpehfmchcjanhaaDoorCsrK
import Derived.Test.YtpehfmchcjanhaaDoorCsrL
import Derived.Test.YtpehfmchcjanhaaDoorCards
import Derived.Test.YtpehfmchcjanhaaDoorTie
import Derived.SevenTiedAt
set_option linter.unusedVariables false
set_option linter.unusedSimpArgs false
namespace Go.Proofs.YtpehfmchcjanhaaDoor.CsrGuards
open Go.ChangeShapes Go.WideShapes Go.ChangeAt Go.RowKit

set_option maxRecDepth 100000 in
set_option maxHeartbeats 1000000 in
theorem walk_out (c : Nat → Int) (n p x : Int) (h : n < 0 ∨ 4095 < n ∨ p < 0 ∨ 3 < p) {a0 a1 : Addr} {W : World} (sn : Sen W a0 a1) :
    Calls Tryd.prog 7 #[csV c, .int .i64 n, .int .i64 p, .int .u64 x] W fun e w' => e = .returned (.bool true) ∧ Below W.heap.size W w' := by
  have g0 := (Grew.refl W).alloc (.cells (csA c) 24)
  have run : ∀ (b1 b2 b3 b4 : Bool), decide (n < 0) = b1 → decide (4095 < n) = b2 → decide (p < 0) = b3 → decide (3 < p) = b4 → (b1 || (b2 || (b3 || b4))) = true →
      Calls Tryd.prog 7 #[csV c, .int .i64 n, .int .i64 p, .int .u64 x] W fun e w' => e = .returned (.bool true) ∧ Below W.heap.size W w' := by
    intro b1 b2 b3 b4 e1 e2 e3 e4 hb
    clear h
    cases b1
    · cases b2
      · cases b3
        · cases b4
          · cases hb
          · clear hb
            go_enter Tryd.func7, Tryd.ntmps7
            go_wp2_with fail
            refine (heads_c (sn.grew g0) (Grew.refl _)).mono ?_
            rintro e w1 ⟨rfl, h1⟩
            have g1 := g0.trans h1
            go_wp2_with fail
            go_ret
            exact ⟨rfl, g1⟩
        · clear hb e4
          go_enter Tryd.func7, Tryd.ntmps7
          go_wp2_with fail
          refine (heads_c (sn.grew g0) (Grew.refl _)).mono ?_
          rintro e w1 ⟨rfl, h1⟩
          have g1 := g0.trans h1
          go_wp2_with fail
          go_ret
          exact ⟨rfl, g1⟩
      · clear hb e3 e4
        go_enter Tryd.func7, Tryd.ntmps7
        go_wp2_with fail
        refine (heads_c (sn.grew g0) (Grew.refl _)).mono ?_
        rintro e w1 ⟨rfl, h1⟩
        have g1 := g0.trans h1
        go_wp2_with fail
        go_ret
        exact ⟨rfl, g1⟩
    · clear hb e2 e3 e4
      go_enter Tryd.func7, Tryd.ntmps7
      go_wp2_with fail
      refine (heads_c (sn.grew g0) (Grew.refl _)).mono ?_
      rintro e w1 ⟨rfl, h1⟩
      have g1 := g0.trans h1
      go_wp2_with fail
      go_ret
      exact ⟨rfl, g1⟩
  refine run _ _ _ _ rfl rfl rfl rfl ?_
  simp only [Bool.or_eq_true, decide_eq_true_eq]
  exact h

set_option maxRecDepth 100000 in
set_option maxHeartbeats 1000000 in
theorem walk_ff (c : Nat → Int) (n p x : Int) (n0 : decide (n < 0) = false) (n1 : decide (4095 < n) = false) (p0 : decide (p < 0) = false) (p1 : decide (3 < p) = false) {a0 a1 : Addr}
    (HR : ∀ {W w : World}, Sen W a0 a1 → Grew W w → Calls Tryd.prog 11 #[csV c, .int .i64 n, .int .i64 p] w fun e w' => e = .returned (.tuple #[.int .u64 0, .bool false]) ∧ Grew W w') (HW : ∀ {W w : World}, Sen W a0 a1 → Grew W w → Calls Tryd.prog 10 #[csV c, .int .i64 n, .int .i64 p, .int .u64 x] w fun e w' => e = .returned (.tuple #[csV c, .bool false]) ∧ Grew W w') {W : World} (sn : Sen W a0 a1) :
    Calls Tryd.prog 7 #[csV c, .int .i64 n, .int .i64 p, .int .u64 x] W fun e w' => e = .returned (.bool true) ∧ Below W.heap.size W w' := by
  have nn : 0 ≤ n := by simpa using n0
  have nm : n ≤ 4095 := by simpa using n1
  have g0 := (Grew.refl W).alloc (.cells (csA c) 24)
  go_enter Tryd.func7, Tryd.ntmps7
  go_wp2_with (first
    | ((with_reducible refine ld_cs rfl (.tmp 4) rfl _ rfl (Blk.new W _ _ _ rfl) ?_ ?_); (rotate_left 1))
    | fail)
  refine (HR (sn.grew g0) (Grew.refl _)).mono ?_
  rintro e w1 ⟨rfl, h1⟩
  have g1 := g0.trans h1
  have k1 := (Blk.new W (csA c) 24 _ rfl).grew h1
  clear HR h1 g0
  go_wp2_with (first
    | ((with_reducible refine ld_cs rfl (.tmp 4) rfl _ rfl k1 ?_ ?_); (rotate_left 1))
    | fail)
  refine (HW (sn.grew g1) (Grew.refl _)).mono ?_
  rintro e w2 ⟨rfl, h2⟩
  have g2 := g1.trans h2
  have k2 := k1.grew h2
  have n2 := k2.lt
  clear HW h2 k1
  go_wp2_with (first
    | ((with_reducible refine st_csG rfl (.tmp 11) (.tmp 42) rfl rfl c (Blk.new w2 _ _ _ rfl) ?_ ?_ ?_ (g2.alloc _) (Nat.le_of_lt n2) ?_); (rotate_left 3); intro w3 _ g3 _ _)
    | fail)
  refine (heads_c (sn.grew g3) (Grew.refl _)).mono ?_
  rintro e w4 ⟨rfl, h4⟩
  have g4 := g3.trans h4
  go_wp2_with fail
  · go_ret
    exact ⟨rfl, g4⟩
  all_goals rfl

set_option maxRecDepth 100000 in
set_option maxHeartbeats 1000000 in
theorem walk_tf (c : Nat → Int) (n p x v : Int) (n0 : decide (n < 0) = false) (n1 : decide (4095 < n) = false) (p0 : decide (p < 0) = false) (p1 : decide (3 < p) = false) (hl : decide (n / 256 % 4 ≤ p) = true) {a0 a1 : Addr}
    (HR : ∀ {W w : World}, Sen W a0 a1 → Grew W w → Calls Tryd.prog 11 #[csV c, .int .i64 n, .int .i64 p] w fun e w' => e = .returned (.tuple #[.int .u64 v, .bool true]) ∧ Grew W w') (HW : ∀ {W w : World}, Sen W a0 a1 → Grew W w → Calls Tryd.prog 10 #[csV c, .int .i64 n, .int .i64 p, .int .u64 x] w fun e w' => e = .returned (.tuple #[csV c, .bool false]) ∧ Grew W w') {W : World} (sn : Sen W a0 a1) :
    Calls Tryd.prog 7 #[csV c, .int .i64 n, .int .i64 p, .int .u64 x] W fun e w' => e = .returned (.bool true) ∧ Below W.heap.size W w' := by
  have nn : 0 ≤ n := by simpa using n0
  have nm : n ≤ 4095 := by simpa using n1
  have g0 := (Grew.refl W).alloc (.cells (csA c) 24)
  go_enter Tryd.func7, Tryd.ntmps7
  go_wp2_with (first
    | ((with_reducible refine ld_cs rfl (.tmp 4) rfl _ rfl (Blk.new W _ _ _ rfl) ?_ ?_); (rotate_left 1))
    | fail)
  refine (HR (sn.grew g0) (Grew.refl _)).mono ?_
  rintro e w1 ⟨rfl, h1⟩
  have g1 := g0.trans h1
  have k1 := (Blk.new W (csA c) 24 _ rfl).grew h1
  clear HR h1 g0
  go_wp2_with (first
    | ((with_reducible refine ld_cs rfl (.tmp 4) rfl _ rfl k1 ?_ ?_); (rotate_left 1))
    | fail)
  refine (HW (sn.grew g1) (Grew.refl _)).mono ?_
  rintro e w2 ⟨rfl, h2⟩
  have g2 := g1.trans h2
  have k2 := k1.grew h2
  have n2 := k2.lt
  clear HW h2 k1
  go_wp2_with (first
    | ((with_reducible refine st_csG rfl (.tmp 11) (.tmp 42) rfl rfl c (Blk.new w2 _ _ _ rfl) ?_ ?_ ?_ (g2.alloc _) (Nat.le_of_lt n2) ?_); (rotate_left 3); intro w3 _ g3 _ _)
    | fail)
  refine (heads_c (sn.grew g3) (Grew.refl _)).mono ?_
  rintro e w4 ⟨rfl, h4⟩
  have g4 := g3.trans h4
  go_wp2_with fail
  · go_ret
    exact ⟨rfl, g4⟩
  all_goals rfl

set_option maxRecDepth 100000 in
set_option maxHeartbeats 1000000 in
theorem walk_tt (c d : Nat → Int) (n p x v : Int) (n0 : decide (n < 0) = false) (n1 : decide (4095 < n) = false) (p0 : decide (p < 0) = false) (p1 : decide (3 < p) = false) (hl : decide (n / 256 % 4 ≤ p) = true) (ho : decide (n < 3072) = true) {a0 a1 : Addr}
    (HR : ∀ {W w : World}, Sen W a0 a1 → Grew W w → Calls Tryd.prog 11 #[csV c, .int .i64 n, .int .i64 p] w fun e w' => e = .returned (.tuple #[.int .u64 v, .bool true]) ∧ Grew W w') (HW : ∀ {W w : World}, Sen W a0 a1 → Grew W w → Calls Tryd.prog 10 #[csV c, .int .i64 n, .int .i64 p, .int .u64 x] w fun e w' => e = .returned (.tuple #[csV d, .bool true]) ∧ Grew W w') {W : World} (sn : Sen W a0 a1) :
    Calls Tryd.prog 7 #[csV c, .int .i64 n, .int .i64 p, .int .u64 x] W fun e w' => e = .returned (.bool true) ∧ Below W.heap.size W w' := by
  have nn : 0 ≤ n := by simpa using n0
  have nm : n ≤ 4095 := by simpa using n1
  have g0 := (Grew.refl W).alloc (.cells (csA c) 24)
  go_enter Tryd.func7, Tryd.ntmps7
  go_wp2_with (first
    | ((with_reducible refine ld_cs rfl (.tmp 4) rfl _ rfl (Blk.new W _ _ _ rfl) ?_ ?_); (rotate_left 1))
    | fail)
  refine (HR (sn.grew g0) (Grew.refl _)).mono ?_
  rintro e w1 ⟨rfl, h1⟩
  have g1 := g0.trans h1
  have k1 := (Blk.new W (csA c) 24 _ rfl).grew h1
  clear HR h1 g0
  go_wp2_with (first
    | ((with_reducible refine ld_cs rfl (.tmp 4) rfl _ rfl k1 ?_ ?_); (rotate_left 1))
    | fail)
  refine (HW (sn.grew g1) (Grew.refl _)).mono ?_
  rintro e w2 ⟨rfl, h2⟩
  have g2 := g1.trans h2
  have k2 := k1.grew h2
  have n2 := k2.lt
  clear HW h2 k1
  go_wp2_with (first
    | ((with_reducible refine st_csG rfl (.tmp 11) (.tmp 42) rfl rfl d (Blk.new w2 _ _ _ rfl) ?_ ?_ ?_ (g2.alloc _) (Nat.le_of_lt n2) ?_); (rotate_left 3); intro w3 _ g3 _ _)
    | fail)
  refine (heads_c (sn.grew g3) (Grew.refl _)).mono ?_
  rintro e w4 ⟨rfl, h4⟩
  have g4 := g3.trans h4
  go_wp2_with fail
  · go_ret
    exact ⟨rfl, g4⟩
  all_goals rfl

theorem walk (c : Nat → Int) (hc : csOk c) (n : Int) (hn : -9223372036854775808 ≤ n ∧ n ≤ 9223372036854775807) (p : Int) (hp : -9223372036854775808 ≤ p ∧ p ≤ 9223372036854775807) (x : Int) (hx : 0 ≤ x ∧ x < 18446744073709551616) {a0 a1 : Addr} {W : World} (sn : Sen W a0 a1) :
    Calls Tryd.prog 7 #[csV c, .int .i64 n, .int .i64 p, .int .u64 x] W fun e w' => e = .returned (.bool true) ∧ Below W.heap.size W w' := by
  obtain ⟨h0, h1⟩ := hx
  by_cases h : n < 0 ∨ 4095 < n ∨ p < 0 ∨ 3 < p
  · exact walk_out c n p x h sn
  have n0 : decide (n < 0) = false := by simp; omega
  have n1 : decide (4095 < n) = false := by simp; omega
  have p0 : decide (p < 0) = false := by simp; omega
  have p1 : decide (3 < p) = false := by simp; omega
  cases hr : rdB c n p
  · have hb : wrB c n p = false := by rw [wrB, hr]; rfl
    exact walk_ff c n p x n0 n1 p0 p1 (fun sn hg => Read_no c n p hr sn hg) (fun sn hg => Write_no c n p x hb sn hg) sn
  · obtain ⟨k, hk, rfl⟩ := in_of_rd hr
    have hl := level_of_rd hk hr
    cases hb : wrB c (nmR k) p
    · exact walk_tf c _ p x (valR c k) n0 n1 p0 p1 hl (fun sn hg => Read_yes c k hk p hr sn hg) (fun sn hg => Write_no c _ p x hb sn hg) sn
    · exact walk_tt c (wrV c (nmR k) x) _ p x (valR c k) n0 n1 p0 p1 hl (below_of_wr hk hb) (fun sn hg => Read_yes c k hk p hr sn hg) (fun sn hg => Write_yes c _ p x h0 h1 hb sn hg) sn

set_option maxRecDepth 100000 in
theorem lifted (os : Os) (started : os.Started) (H : Type) (enc : TypeId × Value → H) :
    ReturnsInHanded {} Tryd.checked os 7 .any (fun w args => (Rows.csrGuardsSpec.pre enc Tryd.prog Tryd.f7 [] false w args ∧ laidMetH Tryd.prog laid2 w) ∧ sizedMet enc Tryd.prog Tryd.f7 (OpenSpec.ofChange Rows.csrGuardsSpec) false w args) (Rows.csrGuardsSpec.post enc Tryd.prog Tryd.f7 false true false false) := by
  refine returnsInHanded_of_change_and (C := Tryd.checked) (X := fun w _ => laidMetH Tryd.prog laid2 w) (fun _ _ _ hh h => h.of_heap hh) own started (by kernel_rfl) Tryd.func7
    (ChangeSpec.witness_shaped (enc := enc) (C := Tryd.checked) (os := os) (X := fun w _ => laidMetH Tryd.prog laid2 w) false (World.doorLaid Tryd.prog 400 os) #[.agg #[.int .u64 0, .int .u64 0, .int .u64 0, .int .u64 0, .int .u64 0, .int .u64 0, .int .u64 0, .int .u64 0, .int .u64 0, .int .u64 0, .int .u64 0, .int .u64 0, .int .u64 0, .int .u64 0, .int .u64 0, .int .u64 0, .int .u64 0], .int .i64 0, .int .i64 0, .int .u64 0] 8 rfl (World.shaped_of_RefB (by kernel_rfl) (by kernel_rfl)) (by kernel_rfl) (by kernel_rfl) (by kernel_rfl) (door_met os _)) ?_
  intro W base args ds gs before hval0 hW _ _ hL _
  obtain ⟨a0, a1, sn⟩ := sen_of_laid hL
  have hval : ∀ (j : Nat) t v, Tryd.f7.params[j]? = some t → args[j]? = some v → Value.okWide Tryd.prog W .any base t v := hval0
  have hW' := hW
  obtain ⟨p, q, hA0, hV, rfl, hfz, hnd⟩ := hW
  have hA : DataW.TrodAll enc Tryd.prog W 0 (fun _ => true) true Tryd.f7.params.toList args.toList ds p := hA0
  rw [Tryd.params7] at hA hval
  obtain ⟨v0, vs0, d0, ds0, p0, q0, hargs, rfl, rfl, h0, r'0⟩ := trodAll_cons hA
  obtain ⟨v1, vs1, d1, ds1, p1, q1, rfl, rfl, rfl, h1, r'1⟩ := trodAll_cons r'0
  obtain ⟨v2, vs2, d2, ds2, p2, q2, rfl, rfl, rfl, h2, r'2⟩ := trodAll_cons r'1
  obtain ⟨v3, vs3, d3, ds3, p3, q3, rfl, rfl, rfl, h3, r'3⟩ := trodAll_cons r'2
  obtain ⟨rfl, rfl, rfl⟩ := trodAll_nil r'3
  obtain rfl : args = #[v0, v1, v2, v3] := by cases args; simp_all
  obtain ⟨c0, rfl, k0⟩ := open_csrs (hval 0 24 v0 rfl rfl) h0
  obtain ⟨a1, rfl, rfl, rfl, w1⟩ := open_int Tryd.underlying3 (hval 1 3 v1 rfl rfl) h1
  obtain ⟨a2, rfl, rfl, rfl, w2⟩ := open_int Tryd.underlying3 (hval 2 3 v2 rfl rfl) h2
  obtain ⟨a3, rfl, rfl, rfl, w3⟩ := open_int Tryd.underlying22 (hval 3 22 v3 rfl rfl) h3
  refine (walk c0 k0 a1 (wf_i64 w1) a2 (wf_i64 w2) a3 (wf_u64 w3) sn).mono fun e W' ⟨he, hb⟩ => ?_
  subst he
  exact ⟨_, rfl, law_post hW' rfl rfl laid (by kernel_rfl) rfl Tryd.underlying4 hb⟩

theorem over : Rows.csrGuardsRow.holds Tryd.pinned (OpenSpec.ofChange Rows.csrGuardsSpec) :=
  OpenClaim.holds_of_wide 7 Tryd.f7 rfl rfl rfl rfl rfl rfl rfl ⟨rfl, rfl, rfl, rfl, rfl⟩ rfl rfl rfl rfl rfl (by kernel_rfl) Tryd.func7 (by kernel_rfl)
    (of_decide_eq_true (by kernel_rfl)) (by unfold Func.isWrapper; first | (rw [if_pos (by decide +kernel)]; kernel_rfl) | (rw [if_neg (by decide +kernel)]; exact ⟨rfl, rfl⟩))
    (fun os started H enc _ => lifted os started H enc)

theorem proved : Rows.CsrGuardsCardSaid :=
  Claim7.holds_tied_plain_at .later [] Rows.csrGuardsCard.laidKinds true Rows.csrGuardsCard.stood.harness Rows.csrGuardsCard.stood.looks
    over (fun _ h => by cases h) (by kernel_rfl) (fun _ h => by cases h) csrGuards_row_tie rfl ⟨rfl, rfl⟩ (by kernel_rfl) rfl
    (fun f fn hf hfn => by
      obtain rfl : f = 7 := Option.some.inj ((show Tryd.prog.funcNamed "drawbridge/drawbridgelaw05.CsrGuards" = some 7 by kernel_rfl).symm.trans hf) |>.symm
      obtain rfl : fn = Tryd.f7 := (Option.some.inj (Tryd.func7.symm.trans hfn)).symm
      exact ⟨by kernel_rfl, fun j t ht => by
        have hall : (Tryd.f7.params.toList.all fun u => !Tryd.prog.wantsStandIn u) = true := by kernel_rfl
        have hm : t ∈ Tryd.f7.params.toList := by simpa using Array.mem_of_getElem? ht
        exact (show Tryd.prog.wantsStandIn t = false by simpa using List.all_eq_true.1 hall t hm)⟩)
    (by kernel_rfl)
#print axioms proved
end Go.Proofs.YtpehfmchcjanhaaDoor.CsrGuards
