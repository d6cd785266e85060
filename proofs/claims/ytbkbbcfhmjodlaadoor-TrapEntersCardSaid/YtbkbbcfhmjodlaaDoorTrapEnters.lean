/-
  The statement TrapEnters: for all registers, right or not, privilege, place, cause and value, an interrupt or none: package trap's Enter answers what the document's answers. Conditions: none but those of the statement's row (the package variable as the text lays it).
-/
import Derived.Test.YtbkbbcfhmjodlaaDoorTrpL
import Derived.Test.YtbkbbcfhmjodlaaDoorCards
import Derived.Test.YtbkbbcfhmjodlaaDoorTie
import Derived.SevenTiedAt
set_option linter.unusedVariables false
set_option linter.unusedSimpArgs false
namespace Go.Proofs.YtbkbbcfhmjodlaaDoor.TrapEnters
open Go.ChangeShapes Go.WideShapes Go.ChangeAt Go.RowKit

set_option maxRecDepth 100000 in
set_option maxHeartbeats 2000000 in
theorem walk_to (c d : Nat → Int) (p pc cause tval q at' : Int) (irq : Bool) (HA : ∀ {W w : World}, Ord W → Grew W w → Calls Tryd.prog 10 #[csV c, .int .i64 p, .int .u64 pc, .int .i64 cause, .bool irq, .int .u64 tval] w fun e w' => e = .returned (.tuple #[csV d, .int .i64 q, .int .u64 at']) ∧ Grew W w') (HB : ∀ {W w : World}, Ord W → Grew W w → Calls Tryd.prog 11 #[csV c, .int .i64 p, .int .u64 pc, .int .i64 cause, .bool irq, .int .u64 tval] w fun e w' => e = .returned (.tuple #[csV d, .int .i64 q, .int .u64 at']) ∧ Grew W w') {W : World} (so : Ord W) :
    Calls Tryd.prog 4 #[csV c, .int .i64 p, .int .u64 pc, .int .i64 cause, .bool irq, .int .u64 tval] W fun e w' => e = .returned (.bool true) ∧ Below W.heap.size W w' := by
  have hq := cs_eql d
  have g0 := (Grew.refl W).alloc (.cells (csA c) 24)
  go_enter Tryd.func4, Tryd.ntmps4
  go_wp2_with (first
    | ((with_reducible refine ld_cs rfl (.tmp 6) rfl _ rfl (Blk.new W _ _ _ rfl) ?_ ?_); (rotate_left 1))
    | fail)
  refine (HA (so.grew g0) (Grew.refl _)).mono ?_
  rintro e w1 ⟨rfl, h1⟩
  have g1 := g0.trans h1
  have k1 := (Blk.new W (csA c) 24 _ rfl).grew h1
  have n1 := k1.lt
  clear HA h1 g0
  go_wp2_with (first
    | ((with_reducible refine st_csG rfl (.tmp 13) (.tmp 27) rfl rfl d (Blk.new w1 _ _ _ rfl) ?_ ?_ ?_ (g1.alloc _) (Nat.le_of_lt n1) ?_); (rotate_left 3); intro w2 j2 g2 o2 _; have k2 := o2 _ _ _ (by omega) (k1.alloc _); clear o2)
    | ((with_reducible refine ld_cs rfl (.tmp 6) rfl _ rfl k2 ?_ ?_); (rotate_left 1))
    | fail)
  refine (HB (so.grew g2) (Grew.refl _)).mono ?_
  rintro e w3 ⟨rfl, h3⟩
  have g3 := g2.trans h3
  have j3 := j2.grew h3
  have k3 := k2.grew h3
  have n3 := k3.lt
  have m3 := j3.lt
  clear HB h3 j2 k2 g2
  go_wp2_with (first
    | ((with_reducible refine st_csG rfl (.tmp 16) (.tmp 38) rfl rfl d (Blk.new w3 _ _ _ rfl) ?_ ?_ ?_ (g3.alloc _) (Nat.le_of_lt n3) ?_); (rotate_left 3); intro w4 i4 g4 o4 _; have j4 := o4 _ _ _ (by omega) (j3.alloc _); clear o4)
    | ((with_reducible refine ld_cs rfl (.tmp 13) rfl _ rfl j4 ?_ ?_); (rotate_left 1))
    | ((with_reducible refine ld_cs rfl (.tmp 16) rfl _ rfl i4 ?_ ?_); (rotate_left 1))
    | fail)
  refine (heads_c (so.grew g4) (Grew.refl _)).mono ?_
  rintro e w5 ⟨rfl, h5⟩
  have g5 := g4.trans h5
  go_wp2_with fail
  · go_ret
    exact ⟨rfl, g5⟩
  all_goals rfl

theorem walk (c : Nat → Int) (hc : csOk c) (p : Int) (hp : -9223372036854775808 ≤ p ∧ p ≤ 9223372036854775807) (pc : Int) (hpc : 0 ≤ pc ∧ pc < 18446744073709551616) (cause : Int) (hca : -9223372036854775808 ≤ cause ∧ cause ≤ 9223372036854775807) (irq : Bool) (tval : Int) (htv : 0 ≤ tval ∧ tval < 18446744073709551616) {W : World} (so : Ord W) :
    Calls Tryd.prog 4 #[csV c, .int .i64 p, .int .u64 pc, .int .i64 cause, .bool irq, .int .u64 tval] W fun e w' => e = .returned (.bool true) ∧ Below W.heap.size W w' := by
  exact walk_to c _ p pc cause tval _ _ irq (fun _ hg => enter_p c hc p pc cause irq tval hg) (fun _ hg => enter_d c hc p pc cause irq tval hg) so

set_option maxRecDepth 100000 in
theorem lifted (os : Os) (started : os.Started) (H : Type) (enc : TypeId × Value → H) :
    ReturnsInHanded {} Tryd.checked os 4 .any (fun w args => (Rows.trapEntersSpec.pre enc Tryd.prog Tryd.f4 [] false w args ∧ laidMetH Tryd.prog laid2 w) ∧ sizedMet enc Tryd.prog Tryd.f4 (OpenSpec.ofChange Rows.trapEntersSpec) false w args) (Rows.trapEntersSpec.post enc Tryd.prog Tryd.f4 false true false false) := by
  refine returnsInHanded_of_change_and (C := Tryd.checked) (X := fun w _ => laidMetH Tryd.prog laid2 w) (fun _ _ _ hh h => h.of_heap hh) own started (by kernel_rfl) Tryd.func4
    (ChangeSpec.witness_shaped (enc := enc) (C := Tryd.checked) (os := os) (X := fun w _ => laidMetH Tryd.prog laid2 w) false (World.doorLaid Tryd.prog 400 os) #[.agg #[.int .u64 0, .int .u64 0, .int .u64 0, .int .u64 0, .int .u64 0, .int .u64 0, .int .u64 0, .int .u64 0, .int .u64 0, .int .u64 0, .int .u64 0, .int .u64 0, .int .u64 0, .int .u64 0, .int .u64 0, .int .u64 0, .int .u64 0], .int .i64 0, .int .u64 0, .int .i64 0, .bool false, .int .u64 0] 8 rfl (World.shaped_of_RefB (by kernel_rfl) (by kernel_rfl)) (by kernel_rfl) (by kernel_rfl) (by kernel_rfl) (door_met os _)) ?_
  intro W base args ds gs before hval0 hW _ _ hL _
  obtain ⟨a0, a1, sn⟩ := sen_of_laid hL
  have hval : ∀ (j : Nat) t v, Tryd.f4.params[j]? = some t → args[j]? = some v → Value.okWide Tryd.prog W .any base t v := hval0
  have hW' := hW
  obtain ⟨p, q, hA0, hV, rfl, hfz, hnd⟩ := hW
  have hA : DataW.TrodAll enc Tryd.prog W 0 (fun _ => true) true Tryd.f4.params.toList args.toList ds p := hA0
  rw [Tryd.params4] at hA hval
  obtain ⟨v0, vs0, d0, ds0, p0, q0, hargs, rfl, rfl, h0, r'0⟩ := trodAll_cons hA
  obtain ⟨v1, vs1, d1, ds1, p1, q1, rfl, rfl, rfl, h1, r'1⟩ := trodAll_cons r'0
  obtain ⟨v2, vs2, d2, ds2, p2, q2, rfl, rfl, rfl, h2, r'2⟩ := trodAll_cons r'1
  obtain ⟨v3, vs3, d3, ds3, p3, q3, rfl, rfl, rfl, h3, r'3⟩ := trodAll_cons r'2
  obtain ⟨v4, vs4, d4, ds4, p4, q4, rfl, rfl, rfl, h4, r'4⟩ := trodAll_cons r'3
  obtain ⟨v5, vs5, d5, ds5, p5, q5, rfl, rfl, rfl, h5, r'5⟩ := trodAll_cons r'4
  obtain ⟨rfl, rfl, rfl⟩ := trodAll_nil r'5
  obtain rfl : args = #[v0, v1, v2, v3, v4, v5] := by cases args; simp_all
  obtain ⟨c0, rfl, k0⟩ := open_csrs (hval 0 24 v0 rfl rfl) h0
  obtain ⟨a1, rfl, rfl, rfl, w1⟩ := open_int Tryd.underlying3 (hval 1 3 v1 rfl rfl) h1
  obtain ⟨a2, rfl, rfl, rfl, w2⟩ := open_int Tryd.underlying22 (hval 2 22 v2 rfl rfl) h2
  obtain ⟨a3, rfl, rfl, rfl, w3⟩ := open_int Tryd.underlying3 (hval 3 3 v3 rfl rfl) h3
  obtain ⟨a4, rfl, rfl, rfl⟩ := open_bool Tryd.underlying4 (hval 4 4 v4 rfl rfl) h4
  obtain ⟨a5, rfl, rfl, rfl, w5⟩ := open_int Tryd.underlying22 (hval 5 22 v5 rfl rfl) h5
  refine (walk c0 k0 a1 (wf_i64 w1) a2 (wf_u64 w2) a3 (wf_i64 w3) a4 a5 (wf_u64 w5) sn).mono fun e W' ⟨he, hb⟩ => ?_
  subst he
  exact ⟨_, rfl, law_post hW' rfl rfl laid (by kernel_rfl) rfl Tryd.underlying4 hb⟩

theorem over : Rows.trapEntersRow.holds Tryd.pinned (OpenSpec.ofChange Rows.trapEntersSpec) :=
  OpenClaim.holds_of_wide 4 Tryd.f4 rfl rfl rfl rfl rfl rfl rfl ⟨rfl, rfl, rfl, rfl, rfl⟩ rfl rfl rfl rfl rfl (by kernel_rfl) Tryd.func4 (by kernel_rfl)
    (of_decide_eq_true (by kernel_rfl)) (by unfold Func.isWrapper; first | (rw [if_pos (by decide +kernel)]; kernel_rfl) | (rw [if_neg (by decide +kernel)]; exact ⟨rfl, rfl⟩))
    (fun os started H enc _ => lifted os started H enc)

theorem proved : Rows.TrapEntersCardSaid :=
  Claim7.holds_tied_plain_at .later [] Rows.trapEntersCard.laidKinds true Rows.trapEntersCard.stood.harness Rows.trapEntersCard.stood.looks
    over (fun _ h => by cases h) (by kernel_rfl) (fun _ h => by cases h) trapEnters_row_tie rfl ⟨rfl, rfl⟩ (by kernel_rfl) rfl
    (fun f fn hf hfn => by
      obtain rfl : f = 4 := Option.some.inj ((show Tryd.prog.funcNamed "drawbridge/drawbridgelaw06.TrapEnters" = some 4 by kernel_rfl).symm.trans hf) |>.symm
      obtain rfl : fn = Tryd.f4 := (Option.some.inj (Tryd.func4.symm.trans hfn)).symm
      exact ⟨by kernel_rfl, fun j t ht => by
        have hall : (Tryd.f4.params.toList.all fun u => !Tryd.prog.wantsStandIn u) = true := by kernel_rfl
        have hm : t ∈ Tryd.f4.params.toList := by simpa using Array.mem_of_getElem? ht
        exact (show Tryd.prog.wantsStandIn t = false by simpa using List.all_eq_true.1 hall t hm)⟩)
    (by kernel_rfl)
#print axioms proved
end Go.Proofs.YtbkbbcfhmjodlaaDoor.TrapEnters
