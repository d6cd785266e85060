/-
  The statement TrapReturns: for all registers, right or not, and privilege: package trap's Mret, Sret and Pending answer what the document's answer. Conditions: none but those of the statement's row (the package variable as the text lays it).
-/
import Derived.Test.YtbkbbcfhmjodlaaDoorTrpL
import Derived.Test.YtbkbbcfhmjodlaaDoorCards
import Derived.Test.YtbkbbcfhmjodlaaDoorTie
import Derived.SevenTiedAt
set_option linter.unusedVariables false
set_option linter.unusedSimpArgs false
namespace Go.Proofs.YtbkbbcfhmjodlaaDoor.TrapReturns
open Go.ChangeShapes Go.WideShapes Go.ChangeAt Go.RowKit

set_option maxRecDepth 100000 in
set_option maxHeartbeats 2000000 in
theorem walk_to (c d f : Nat → Int) (p q x r y n : Int) (b : Bool) (HM : ∀ {W w : World}, Ord W → Grew W w → Calls Tryd.prog 12 #[csV c] w fun e w' => e = .returned (.tuple #[csV d, .int .i64 q, .int .u64 x]) ∧ Grew W w') (HN : ∀ {W w : World}, Ord W → Grew W w → Calls Tryd.prog 13 #[csV c] w fun e w' => e = .returned (.tuple #[csV d, .int .i64 q, .int .u64 x]) ∧ Grew W w')
    (HS : ∀ {W w : World}, Ord W → Grew W w → Calls Tryd.prog 14 #[csV c] w fun e w' => e = .returned (.tuple #[csV f, .int .i64 r, .int .u64 y]) ∧ Grew W w') (HT : ∀ {W w : World}, Ord W → Grew W w → Calls Tryd.prog 15 #[csV c] w fun e w' => e = .returned (.tuple #[csV f, .int .i64 r, .int .u64 y]) ∧ Grew W w')
    (HP : ∀ {W w : World}, Ord W → Grew W w → Calls Tryd.prog 8 #[csV c, .int .i64 p] w fun e w' => e = .returned (.tuple #[.int .i64 n, .bool b]) ∧ Grew W w') (HQ : ∀ {W w : World}, Ord W → Grew W w → Calls Tryd.prog 16 #[csV c, .int .i64 p] w fun e w' => e = .returned (.tuple #[.int .i64 n, .bool b]) ∧ Grew W w') {W : World} (so : Ord W) :
    Calls Tryd.prog 5 #[csV c, .int .i64 p] W fun e w' => e = .returned (.bool true) ∧ Below W.heap.size W w' := by
  have hqd := cs_eql d
  have hqf := cs_eql f
  have g0 := (Grew.refl W).alloc (.cells (csA c) 24)
  go_enter Tryd.func5, Tryd.ntmps5
  go_wp2_with (first
    | ((with_reducible refine ld_cs rfl (.tmp 2) rfl _ rfl (Blk.new W _ _ _ rfl) ?_ ?_); (rotate_left 1))
    | fail)
  refine (HM (so.grew g0) (Grew.refl _)).mono ?_
  rintro e w1 ⟨rfl, h1⟩
  have g1 := g0.trans h1
  have k1 := (Blk.new W (csA c) 24 _ rfl).grew h1
  have n1 := k1.lt
  clear HM h1 g0
  go_wp2_with (first
    | ((with_reducible refine st_csG rfl (.tmp 5) (.tmp 24) rfl rfl d (Blk.new w1 _ _ _ rfl) ?_ ?_ ?_ (g1.alloc _) (Nat.le_of_lt n1) ?_); (rotate_left 3); intro w2 z52 g2 o2 _; have k2 := o2 _ _ _ (by omega) (k1.alloc _); clear o2)
    | ((with_reducible refine ld_cs rfl (.tmp 2) rfl _ rfl k2 ?_ ?_); (rotate_left 1))
    | fail)
  refine (HN (so.grew g2) (Grew.refl _)).mono ?_
  rintro e w3 ⟨rfl, h3⟩
  have g3 := g2.trans h3
  have k3 := k2.grew h3
  have z53 := z52.grew h3
  have n3 := k3.lt
  have lz53 := z53.lt
  clear HN h3 g2 n1 k2 z52
  go_wp2_with (first
    | ((with_reducible refine st_csG rfl (.tmp 8) (.tmp 30) rfl rfl d (Blk.new w3 _ _ _ rfl) ?_ ?_ ?_ (g3.alloc _) (Nat.le_of_lt n3) ?_); (rotate_left 3); intro w4 z84 g4 o4 _; have k4 := o4 _ _ _ (by omega) (k3.alloc _); have z54 := o4 _ _ _ (by omega) (z53.alloc _); clear o4)
    | ((with_reducible refine ld_cs rfl (.tmp 2) rfl _ rfl k4 ?_ ?_); (rotate_left 1))
    | fail)
  refine (HS (so.grew g4) (Grew.refl _)).mono ?_
  rintro e w5 ⟨rfl, h5⟩
  have g5 := g4.trans h5
  have k5 := k4.grew h5
  have z55 := z54.grew h5
  have z85 := z84.grew h5
  have n5 := k5.lt
  have lz55 := z55.lt
  have lz85 := z85.lt
  clear HS h5 g4 n3 k4 z54 z84 lz53
  go_wp2_with (first
    | ((with_reducible refine st_csG rfl (.tmp 11) (.tmp 36) rfl rfl f (Blk.new w5 _ _ _ rfl) ?_ ?_ ?_ (g5.alloc _) (Nat.le_of_lt n5) ?_); (rotate_left 3); intro w6 z116 g6 o6 _; have k6 := o6 _ _ _ (by omega) (k5.alloc _); have z56 := o6 _ _ _ (by omega) (z55.alloc _); have z86 := o6 _ _ _ (by omega) (z85.alloc _); clear o6)
    | ((with_reducible refine ld_cs rfl (.tmp 2) rfl _ rfl k6 ?_ ?_); (rotate_left 1))
    | fail)
  refine (HT (so.grew g6) (Grew.refl _)).mono ?_
  rintro e w7 ⟨rfl, h7⟩
  have g7 := g6.trans h7
  have k7 := k6.grew h7
  have z57 := z56.grew h7
  have z87 := z86.grew h7
  have z117 := z116.grew h7
  have n7 := k7.lt
  have lz57 := z57.lt
  have lz87 := z87.lt
  have lz117 := z117.lt
  clear HT h7 g6 n5 k6 z56 z86 z116 lz55 lz85
  go_wp2_with (first
    | ((with_reducible refine st_csG rfl (.tmp 14) (.tmp 42) rfl rfl f (Blk.new w7 _ _ _ rfl) ?_ ?_ ?_ (g7.alloc _) (Nat.le_of_lt n7) ?_); (rotate_left 3); intro w8 z148 g8 o8 _; have k8 := o8 _ _ _ (by omega) (k7.alloc _); have z58 := o8 _ _ _ (by omega) (z57.alloc _); have z88 := o8 _ _ _ (by omega) (z87.alloc _); have z118 := o8 _ _ _ (by omega) (z117.alloc _); clear o8)
    | ((with_reducible refine ld_cs rfl (.tmp 2) rfl _ rfl k8 ?_ ?_); (rotate_left 1))
    | fail)
  refine (HP (so.grew g8) (Grew.refl _)).mono ?_
  rintro e w9 ⟨rfl, h9⟩
  have g9 := g8.trans h9
  have k9 := k8.grew h9
  have z59 := z58.grew h9
  have z89 := z88.grew h9
  have z119 := z118.grew h9
  have z149 := z148.grew h9
  have n9 := k9.lt
  have lz59 := z59.lt
  have lz89 := z89.lt
  have lz119 := z119.lt
  have lz149 := z149.lt
  clear HP h9 g8 n7 k8 z58 z88 z118 z148 lz57 lz87 lz117
  go_wp2_with (first
    | ((with_reducible refine ld_cs rfl (.tmp 2) rfl _ rfl k9 ?_ ?_); (rotate_left 1))
    | fail)
  refine (HQ (so.grew g9) (Grew.refl _)).mono ?_
  rintro e w10 ⟨rfl, h10⟩
  have g10 := g9.trans h10
  have k10 := k9.grew h10
  have z510 := z59.grew h10
  have z810 := z89.grew h10
  have z1110 := z119.grew h10
  have z1410 := z149.grew h10
  clear HQ h10 g9 n9 k9 z59 z89 z119 z149 lz59 lz89 lz119 lz149
  go_wp2_with (first
    | ((with_reducible refine ld_cs rfl (.tmp 5) rfl _ rfl z510 ?_ ?_); (rotate_left 1))
    | ((with_reducible refine ld_cs rfl (.tmp 8) rfl _ rfl z810 ?_ ?_); (rotate_left 1))
    | ((with_reducible refine lw_cs ?_ (.tmp 11) rfl _ rfl z1110 ?_ ?_); (rotate_left 2))
    | ((with_reducible refine lw_cs ?_ (.tmp 14) rfl _ rfl z1410 ?_ ?_); (rotate_left 2))
    | fail)
  refine (heads_c (so.grew g10) (Grew.refl _)).mono ?_
  rintro e w11 ⟨rfl, h11⟩
  have g11 := g10.trans h11
  go_wp2_with fail
  · go_ret
    exact ⟨rfl, g11⟩
  all_goals rfl

theorem walk (c : Nat → Int) (hc : csOk c) (p : Int) (hp : -9223372036854775808 ≤ p ∧ p ≤ 9223372036854775807) {W : World} (so : Ord W) :
    Calls Tryd.prog 5 #[csV c, .int .i64 p] W fun e w' => e = .returned (.bool true) ∧ Below W.heap.size W w' := by
  exact walk_to c _ _ p _ _ _ _ _ _ (fun _ hg => mret_p c hc hg) (fun _ hg => mret_d c hc hg) (fun _ hg => sret_p c hc hg) (fun _ hg => sret_d c hc hg) (fun so hg => pend_p c hc p so hg) (fun _ hg => pend_d c hc p hg) so

set_option maxRecDepth 100000 in
theorem lifted (os : Os) (started : os.Started) (H : Type) (enc : TypeId × Value → H) :
    ReturnsInHanded {} Tryd.checked os 5 .any (fun w args => (Rows.trapReturnsSpec.pre enc Tryd.prog Tryd.f5 [] false w args ∧ laidMetH Tryd.prog laid2 w) ∧ sizedMet enc Tryd.prog Tryd.f5 (OpenSpec.ofChange Rows.trapReturnsSpec) false w args) (Rows.trapReturnsSpec.post enc Tryd.prog Tryd.f5 false true false false) := by
  refine returnsInHanded_of_change_and (C := Tryd.checked) (X := fun w _ => laidMetH Tryd.prog laid2 w) (fun _ _ _ hh h => h.of_heap hh) own started (by kernel_rfl) Tryd.func5
    (ChangeSpec.witness_shaped (enc := enc) (C := Tryd.checked) (os := os) (X := fun w _ => laidMetH Tryd.prog laid2 w) false (World.doorLaid Tryd.prog 400 os) #[.agg #[.int .u64 0, .int .u64 0, .int .u64 0, .int .u64 0, .int .u64 0, .int .u64 0, .int .u64 0, .int .u64 0, .int .u64 0, .int .u64 0, .int .u64 0, .int .u64 0, .int .u64 0, .int .u64 0, .int .u64 0, .int .u64 0, .int .u64 0], .int .i64 0] 8 rfl (World.shaped_of_RefB (by kernel_rfl) (by kernel_rfl)) (by kernel_rfl) (by kernel_rfl) (by kernel_rfl) (door_met os _)) ?_
  intro W base args ds gs before hval0 hW _ _ hL _
  obtain ⟨a0, a1, sn⟩ := sen_of_laid hL
  have hval : ∀ (j : Nat) t v, Tryd.f5.params[j]? = some t → args[j]? = some v → Value.okWide Tryd.prog W .any base t v := hval0
  have hW' := hW
  obtain ⟨p, q, hA0, hV, rfl, hfz, hnd⟩ := hW
  have hA : DataW.TrodAll enc Tryd.prog W 0 (fun _ => true) true Tryd.f5.params.toList args.toList ds p := hA0
  rw [Tryd.params5] at hA hval
  obtain ⟨v0, vs0, d0, ds0, p0, q0, hargs, rfl, rfl, h0, r'0⟩ := trodAll_cons hA
  obtain ⟨v1, vs1, d1, ds1, p1, q1, rfl, rfl, rfl, h1, r'1⟩ := trodAll_cons r'0
  obtain ⟨rfl, rfl, rfl⟩ := trodAll_nil r'1
  obtain rfl : args = #[v0, v1] := by cases args; simp_all
  obtain ⟨c0, rfl, k0⟩ := open_csrs (hval 0 24 v0 rfl rfl) h0
  obtain ⟨a1, rfl, rfl, rfl, w1⟩ := open_int Tryd.underlying3 (hval 1 3 v1 rfl rfl) h1
  refine (walk c0 k0 a1 (wf_i64 w1) sn).mono fun e W' ⟨he, hb⟩ => ?_
  subst he
  exact ⟨_, rfl, law_post hW' rfl rfl laid (by kernel_rfl) rfl Tryd.underlying4 hb⟩

theorem over : Rows.trapReturnsRow.holds Tryd.pinned (OpenSpec.ofChange Rows.trapReturnsSpec) :=
  OpenClaim.holds_of_wide 5 Tryd.f5 rfl rfl rfl rfl rfl rfl rfl ⟨rfl, rfl, rfl, rfl, rfl⟩ rfl rfl rfl rfl rfl (by kernel_rfl) Tryd.func5 (by kernel_rfl)
    (of_decide_eq_true (by kernel_rfl)) (by unfold Func.isWrapper; first | (rw [if_pos (by decide +kernel)]; kernel_rfl) | (rw [if_neg (by decide +kernel)]; exact ⟨rfl, rfl⟩))
    (fun os started H enc _ => lifted os started H enc)

theorem proved : Rows.TrapReturnsCardSaid :=
  Claim7.holds_tied_plain_at .later [] Rows.trapReturnsCard.laidKinds true Rows.trapReturnsCard.stood.harness Rows.trapReturnsCard.stood.looks
    over (fun _ h => by cases h) (by kernel_rfl) (fun _ h => by cases h) trapReturns_row_tie rfl ⟨rfl, rfl⟩ (by kernel_rfl) rfl
    (fun f fn hf hfn => by
      obtain rfl : f = 5 := Option.some.inj ((show Tryd.prog.funcNamed "drawbridge/drawbridgelaw06.TrapReturns" = some 5 by kernel_rfl).symm.trans hf) |>.symm
      obtain rfl : fn = Tryd.f5 := (Option.some.inj (Tryd.func5.symm.trans hfn)).symm
      exact ⟨by kernel_rfl, fun j t ht => by
        have hall : (Tryd.f5.params.toList.all fun u => !Tryd.prog.wantsStandIn u) = true := by kernel_rfl
        have hm : t ∈ Tryd.f5.params.toList := by simpa using Array.mem_of_getElem? ht
        exact (show Tryd.prog.wantsStandIn t = false by simpa using List.all_eq_true.1 hall t hm)⟩)
    (by kernel_rfl)
#print axioms proved
end Go.Proofs.YtbkbbcfhmjodlaaDoor.TrapReturns
