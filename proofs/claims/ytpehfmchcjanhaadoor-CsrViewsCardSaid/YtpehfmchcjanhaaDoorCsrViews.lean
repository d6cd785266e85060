/-
  The statement CsrViews: for all registers that may be and each value: what the supervisor writes to its view of the status changes just those bits of it, and it sees them. Conditions: none but those of the statement's row (the two package variables as the text lays them).
-/
import Derived.Test.YtpehfmchcjanhaaDoorCsrJ
import Derived.Test.YtpehfmchcjanhaaDoorCsrK
import Derived.Test.YtpehfmchcjanhaaDoorCsrL
import Derived.Test.YtpehfmchcjanhaaDoorCards
import Derived.Test.YtpehfmchcjanhaaDoorTie
import Derived.SevenTiedAt
set_option linter.unusedVariables false
set_option linter.unusedSimpArgs false
namespace Go.Proofs.YtpehfmchcjanhaaDoor.CsrViews
open Go.ChangeShapes Go.WideShapes Go.ChangeAt Go.RowKit

set_option maxRecDepth 100000 in
set_option maxHeartbeats 1000000 in
theorem walk_bad (c : Nat → Int) (x : Int) {a0 a1 : Addr} (H1 : ∀ {W w : World}, Grew W w → Calls Tryd.prog 8 #[csV c] w fun e w' => e = .returned (.bool false) ∧ Grew W w') {W : World} (sn : Sen W a0 a1) :
    Calls Tryd.prog 3 #[csV c, .int .u64 x] W fun e w' => e = .returned (.bool true) ∧ Below W.heap.size W w' := by
  have g0 := (Grew.refl W).alloc (.cells (csA c) 24)
  go_enter Tryd.func3, Tryd.ntmps3
  go_wp2_with (first
    | ((with_reducible refine ld_cs rfl (.tmp 2) rfl _ rfl (Blk.new W _ _ _ rfl) ?_ ?_); (rotate_left 1))
    | fail)
  refine (H1 (Grew.refl _)).mono ?_
  rintro e w1 ⟨rfl, h1⟩
  have g1 := g0.trans h1
  clear H1
  go_wp2_with fail
  refine (heads_c (sn.grew g1) (Grew.refl _)).mono ?_
  rintro e w2 ⟨rfl, h2⟩
  have g2 := g1.trans h2
  go_wp2_with fail
  · go_ret
    exact ⟨rfl, g2⟩
  all_goals rfl

set_option maxRecDepth 100000 in
set_option maxHeartbeats 1000000 in
theorem walk_yes (c : Nat → Int) (x s seen was now : Int) (e1 : (bits .andNot .u64 (bits .xor .u64 was now) 786722 == 0) = true) (e2 : (bits .and .u64 now 786722 == bits .and .u64 x 786722) = true) (e3 : (bits .and .u64 seen 786722 == bits .and .u64 x 786722) = true)
    {a0 a1 : Addr} (H1 : ∀ {W w : World}, Grew W w → Calls Tryd.prog 8 #[csV c] w fun e w' => e = .returned (.bool true) ∧ Grew W w')
    (HW : ∀ {W w : World}, Sen W a0 a1 → Grew W w → Calls Tryd.prog 10 #[csV c, .int .i64 256, .int .i64 1, .int .u64 x] w fun e w' => e = .returned (.tuple #[csV (upd c 0 s), .bool true]) ∧ Grew W w')
    (HS : ∀ {W w : World}, Sen W a0 a1 → Grew W w → Calls Tryd.prog 11 #[csV (upd c 0 s), .int .i64 256, .int .i64 1] w fun e w' => e = .returned (.tuple #[.int .u64 seen, .bool true]) ∧ Grew W w')
    (HM : ∀ {W w : World}, Sen W a0 a1 → Grew W w → Calls Tryd.prog 11 #[csV c, .int .i64 768, .int .i64 3] w fun e w' => e = .returned (.tuple #[.int .u64 was, .bool true]) ∧ Grew W w')
    (HN : ∀ {W w : World}, Sen W a0 a1 → Grew W w → Calls Tryd.prog 11 #[csV (upd c 0 s), .int .i64 768, .int .i64 3] w fun e w' => e = .returned (.tuple #[.int .u64 now, .bool true]) ∧ Grew W w') {W : World} (sn : Sen W a0 a1) :
    Calls Tryd.prog 3 #[csV c, .int .u64 x] W fun e w' => e = .returned (.bool true) ∧ Below W.heap.size W w' := by
  have hq := cs_eql c
  have hu := upd_back c s
  generalize upd c 0 s = d at *
  have g0 := (Grew.refl W).alloc (.cells (csA c) 24)
  go_enter Tryd.func3, Tryd.ntmps3
  go_wp2_with (first
    | ((with_reducible refine ld_cs rfl (.tmp 2) rfl _ rfl (Blk.new W _ _ _ rfl) ?_ ?_); (rotate_left 1))
    | fail)
  refine (H1 (Grew.refl _)).mono ?_
  rintro e w1 ⟨rfl, h1⟩
  have g1 := g0.trans h1
  have k1 := (Blk.new W (csA c) 24 _ rfl).grew h1
  have HU := Lib.hid hu
  clear H1 h1 g0 hu
  go_wp2_with (first
    | ((with_reducible refine ld_cs rfl (.tmp 2) rfl _ rfl k1 ?_ ?_); (rotate_left 1))
    | fail)
  refine (HW (sn.grew g1) (Grew.refl _)).mono ?_
  rintro e w2 ⟨rfl, h2⟩
  have g2 := g1.trans h2
  have k2 := k1.grew h2
  have n2 := k2.lt
  clear HW h2 k1
  go_wp2_with (first
    | ((with_reducible refine st_csG rfl (.tmp 5) (.tmp 22) rfl rfl d (Blk.new w2 _ _ _ rfl) ?_ ?_ ?_ (g2.alloc _) (Nat.le_of_lt n2) ?_); (rotate_left 3); intro w3 j3 g3 o3 _; have k3 := o3 _ _ _ (by omega) (k2.alloc _); clear o3)
    | ((with_reducible refine ld_cs rfl (.tmp 5) rfl _ rfl j3 ?_ ?_); (rotate_left 1))
    | fail)
  refine (HS (sn.grew g3) (Grew.refl _)).mono ?_
  rintro e w4 ⟨rfl, h4⟩
  have g4 := g3.trans h4
  have k4 := k3.grew h4
  have j4 := j3.grew h4
  clear HS h4 k3 j3
  go_wp2_with (first
    | ((with_reducible refine ld_cs rfl (.tmp 2) rfl _ rfl k4 ?_ ?_); (rotate_left 1))
    | fail)
  refine (HM (sn.grew g4) (Grew.refl _)).mono ?_
  rintro e w5 ⟨rfl, h5⟩
  have g5 := g4.trans h5
  have k5 := k4.grew h5
  have j5 := j4.grew h5
  clear HM h5 k4 j4
  go_wp2_with (first
    | ((with_reducible refine ld_cs rfl (.tmp 5) rfl _ rfl j5 ?_ ?_); (rotate_left 1))
    | fail)
  refine (HN (sn.grew g5) (Grew.refl _)).mono ?_
  rintro e w6 ⟨rfl, h6⟩
  have g6 := g5.trans h6
  have k6 := k5.grew h6
  have j6 := j5.grew h6
  have n6 := k6.lt
  have m6 := j6.lt
  clear HN h6 k5 j5
  go_upto_region 9 with (first
    | ((with_reducible refine st_csG rfl (.tmp 13) (.tmp 39) rfl rfl d (Blk.new w6 _ _ _ rfl) ?_ ?_ ?_ (g6.alloc _) (Nat.le_of_lt n6) ?_); (rotate_left 3); intro w7 q7 g7 o7 _; have k7 := o7 _ _ _ (by omega) (k6.alloc _); clear o7; have x7 : w7.cell? ⟨W.heap.size, 0, none⟩ = some (.int .u64 (c 0)) := (by rw [k7.cell]; rfl); have y7 : w7.cell? ⟨w6.heap.size, 0, none⟩ = some (.int .u64 (d 0)) := (by rw [q7.cell]; rfl); have f7 := q7.free 0)
    | ((with_reducible refine ld_cs rfl (.tmp 5) rfl _ rfl j6 ?_ ?_); (rotate_left 1))
    | fail)
  have q8 : Blk (w7.setCell ⟨w6.heap.size, 0, none⟩ (.int .u64 (c 0))) w6.heap.size (csA c) 24 := by
    have := q7.set (o := 0) (.int .u64 (c 0))
    rw [csU_0, HU.out] at this
    exact this
  have k8 := k7.other (o := 0) (c := w6.heap.size) (by omega) (.int .u64 (c 0))
  have g8 : Grew W (w7.setCell ⟨w6.heap.size, 0, none⟩ (.int .u64 (c 0))) := g7.setCell (Nat.le_of_lt n6) _
  clear x7 y7 f7
  generalize w7.setCell ⟨w6.heap.size, 0, none⟩ (.int .u64 (c 0)) = w8 at *
  go_wp2_with (first
    | ((with_reducible refine lw_cs ?_ (.tmp 13) rfl _ rfl q8 ?_ ?_); (rotate_left 2))
    | ((with_reducible refine lw_cs ?_ (.tmp 2) rfl _ rfl k8 ?_ ?_); (rotate_left 2))
    | fail)
  refine (heads_c (sn.grew g8) (Grew.refl _)).mono ?_
  rintro e w9 ⟨rfl, h9⟩
  have g9 := g8.trans h9
  go_wp2_with fail
  · go_ret
    exact ⟨rfl, g9⟩
  all_goals rfl

theorem walk (c : Nat → Int) (hc : csOk c) (x : Int) (hx : 0 ≤ x ∧ x < 18446744073709551616) {a0 a1 : Addr} {W : World} (sn : Sen W a0 a1) :
    Calls Tryd.prog 3 #[csV c, .int .u64 x] W fun e w' => e = .returned (.bool true) ∧ Below W.heap.size W w' := by
  obtain ⟨h0, h1⟩ := hx
  cases hk : chkB c
  · exact walk_bad c x (fun hg => by have := check_c c hc hg; rwa [hk] at this) sn
  have H1 : ∀ {W w : World}, Grew W w → Calls Tryd.prog 8 #[csV c] w fun e w' => e = .returned (.bool true) ∧ Grew W w' := fun hg => by have := check_c c hc hg; rwa [hk] at this
  have b1 : wrB c 256 1 = true := by simp [wrB, rdB, hidB]; decide +kernel
  have b2 : ∀ d : Nat → Int, rdB d (nmR 0) 1 = true := fun d => by simp [rdB, hidB, nmR, numR]; decide +kernel
  have b3 : ∀ d : Nat → Int, rdB d (nmR 9) 3 = true := fun d => by simp [rdB, hidB, nmR, numR]; decide +kernel
  have ew : wrV c 256 x = upd c 0 (mrg (c 0) x 786722) := by simp [wrV]
  refine walk_yes c x (mrg (c 0) x 786722) _ _ _ (W_apart (c 0) x (hc 0).1 (hc 0).2 h0 h1) (W_now (c 0) x (hc 0).1 (hc 0).2 h0 h1) (W_seen (c 0) x (hc 0).1 (hc 0).2 h0 h1) H1 (fun sn hg => ?_) (fun sn hg => ?_) (fun sn hg => ?_) (fun sn hg => ?_) sn
  · have := Write_yes c 256 1 x h0 h1 b1 sn hg
    rwa [ew] at this
  · exact Read_yes (upd c 0 (mrg (c 0) x 786722)) 0 (by decide) 1 (b2 _) sn hg
  · exact Read_yes c 9 (by decide) 3 (b3 _) sn hg
  · exact Read_yes (upd c 0 (mrg (c 0) x 786722)) 9 (by decide) 3 (b3 _) sn hg

set_option maxRecDepth 100000 in
theorem lifted (os : Os) (started : os.Started) (H : Type) (enc : TypeId × Value → H) :
    ReturnsInHanded {} Tryd.checked os 3 .any (fun w args => (Rows.csrViewsSpec.pre enc Tryd.prog Tryd.f3 [] false w args ∧ laidMetH Tryd.prog laid2 w) ∧ sizedMet enc Tryd.prog Tryd.f3 (OpenSpec.ofChange Rows.csrViewsSpec) false w args) (Rows.csrViewsSpec.post enc Tryd.prog Tryd.f3 false true false false) := by
  refine returnsInHanded_of_change_and (C := Tryd.checked) (X := fun w _ => laidMetH Tryd.prog laid2 w) (fun _ _ _ hh h => h.of_heap hh) own started (by kernel_rfl) Tryd.func3
    (ChangeSpec.witness_shaped (enc := enc) (C := Tryd.checked) (os := os) (X := fun w _ => laidMetH Tryd.prog laid2 w) false (World.doorLaid Tryd.prog 400 os) #[.agg #[.int .u64 0, .int .u64 0, .int .u64 0, .int .u64 0, .int .u64 0, .int .u64 0, .int .u64 0, .int .u64 0, .int .u64 0, .int .u64 0, .int .u64 0, .int .u64 0, .int .u64 0, .int .u64 0, .int .u64 0, .int .u64 0, .int .u64 0], .int .u64 0] 8 rfl (World.shaped_of_RefB (by kernel_rfl) (by kernel_rfl)) (by kernel_rfl) (by kernel_rfl) (by kernel_rfl) (door_met os _)) ?_
  intro W base args ds gs before hval0 hW _ _ hL _
  obtain ⟨a0, a1, sn⟩ := sen_of_laid hL
  have hval : ∀ (j : Nat) t v, Tryd.f3.params[j]? = some t → args[j]? = some v → Value.okWide Tryd.prog W .any base t v := hval0
  have hW' := hW
  obtain ⟨p, q, hA0, hV, rfl, hfz, hnd⟩ := hW
  have hA : DataW.TrodAll enc Tryd.prog W 0 (fun _ => true) true Tryd.f3.params.toList args.toList ds p := hA0
  rw [Tryd.params3] at hA hval
  obtain ⟨v0, vs0, d0, ds0, p0, q0, hargs, rfl, rfl, h0, r'0⟩ := trodAll_cons hA
  obtain ⟨v1, vs1, d1, ds1, p1, q1, rfl, rfl, rfl, h1, r'1⟩ := trodAll_cons r'0
  obtain ⟨rfl, rfl, rfl⟩ := trodAll_nil r'1
  obtain rfl : args = #[v0, v1] := by cases args; simp_all
  obtain ⟨c0, rfl, k0⟩ := open_csrs (hval 0 24 v0 rfl rfl) h0
  obtain ⟨a1, rfl, rfl, rfl, w1⟩ := open_int Tryd.underlying22 (hval 1 22 v1 rfl rfl) h1
  refine (walk c0 k0 a1 (wf_u64 w1) sn).mono fun e W' ⟨he, hb⟩ => ?_
  subst he
  exact ⟨_, rfl, law_post hW' rfl rfl laid (by kernel_rfl) rfl Tryd.underlying4 hb⟩

theorem over : Rows.csrViewsRow.holds Tryd.pinned (OpenSpec.ofChange Rows.csrViewsSpec) :=
  OpenClaim.holds_of_wide 3 Tryd.f3 rfl rfl rfl rfl rfl rfl rfl ⟨rfl, rfl, rfl, rfl, rfl⟩ rfl rfl rfl rfl rfl (by kernel_rfl) Tryd.func3 (by kernel_rfl)
    (of_decide_eq_true (by kernel_rfl)) (by unfold Func.isWrapper; first | (rw [if_pos (by decide +kernel)]; kernel_rfl) | (rw [if_neg (by decide +kernel)]; exact ⟨rfl, rfl⟩))
    (fun os started H enc _ => lifted os started H enc)

theorem proved : Rows.CsrViewsCardSaid :=
  Claim7.holds_tied_plain_at .later [] Rows.csrViewsCard.laidKinds true Rows.csrViewsCard.stood.harness Rows.csrViewsCard.stood.looks
    over (fun _ h => by cases h) (by kernel_rfl) (fun _ h => by cases h) csrViews_row_tie rfl ⟨rfl, rfl⟩ (by kernel_rfl) rfl
    (fun f fn hf hfn => by
      obtain rfl : f = 3 := Option.some.inj ((show Tryd.prog.funcNamed "drawbridge/drawbridgelaw05.CsrViews" = some 3 by kernel_rfl).symm.trans hf) |>.symm
      obtain rfl : fn = Tryd.f3 := (Option.some.inj (Tryd.func3.symm.trans hfn)).symm
      exact ⟨by kernel_rfl, fun j t ht => by
        have hall : (Tryd.f3.params.toList.all fun u => !Tryd.prog.wantsStandIn u) = true := by kernel_rfl
        have hm : t ∈ Tryd.f3.params.toList := by simpa using Array.mem_of_getElem? ht
        exact (show Tryd.prog.wantsStandIn t = false by simpa using List.all_eq_true.1 hall t hm)⟩)
    (by kernel_rfl)
#print axioms proved
end Go.Proofs.YtpehfmchcjanhaaDoor.CsrViews
