/-
  The statement EtherTells: which bytes frames are, and which frames bytes, as the document's own answer says. For every frame and bytes. Conditions: none but those of the statement's row (the package variables as the text lays them).
-/
import Derived.Test.YtolfaelalmmefaaDoorEtK
import Derived.Test.YtolfaelalmmefaaDoorEtL
import Derived.Test.YtolfaelalmmefaaDoorCards
import Derived.Test.YtolfaelalmmefaaDoorTie
import Derived.SevenTiedAt
set_option maxRecDepth 4000
set_option linter.unusedVariables false
set_option linter.unusedSimpArgs false
namespace Go.Proofs.YtolfaelalmmefaaDoor.etherTells
open Go.ChangeShapes Go.WideShapes Go.ChangeAt Go.RowKit

theorem walk_far {f : FR} {p1 : Option Addr} {k1 : Nat} {p2 : Option Addr} {k2 : Nat} {p3 : Option Addr} {k3 : Nat} (a : Option Addr) (n c : Nat) {W : World} {a0 a1 a2 : Addr} (sn : Sen W a0 a1 a2) (h : ((3000 : Int) < (n : Nat)) ∨ (¬ ((3000 : Int) < (n : Nat)) ∧ (3000 : Int) < (f.x.length : Nat))) :
    Calls Tryd.prog 4 #[.agg #[.slice p1 f.d.length k1, .slice p2 f.s.length k2, .int .i64 f.t, .slice p3 f.x.length k3], .slice a n c] W fun e w' => e = .returned (.bool true) ∧ Below W.heap.size W w' := by
  rcases h with h1 | ⟨h1, h2⟩
  all_goals
    go_enter Tryd.func4, Tryd.ntmps4
    go_upto_region 1 with fail
    have hB : Blk (W.alloc (.cells #[.slice p1 f.d.length k1, .slice p2 f.s.length k2, .int .i64 f.t, .slice p3 f.x.length k3] 25)) W.heap.size #[.slice p1 f.d.length k1, .slice p2 f.s.length k2, .int .i64 f.t, .slice p3 f.x.length k3] 25 := Blk.new _ _ _ _ rfl
    have g0 : Grew W (W.alloc (.cells #[.slice p1 f.d.length k1, .slice p2 f.s.length k2, .int .i64 f.t, .slice p3 f.x.length k3] 25)) := (Grew.refl _).alloc _
    generalize (W.alloc (.cells #[.slice p1 f.d.length k1, .slice p2 f.s.length k2, .int .i64 f.t, .slice p3 f.x.length k3] 25)) = w0 at *
    generalize hlB : W.heap.size = B at *
    have y0 := hB.cell 0
    have y1 := hB.cell 1
    have y2 := hB.cell 2
    have y3 := hB.cell 3
    go_wp2_with fail
    refine (heads_c (g0) (sn.grew (g0))).mono ?_
    rintro e wh ⟨rfl, gh⟩
    go_wp2_with fail
    go_ret
    exact ⟨rfl, gh⟩
set_option maxHeartbeats 4000000 in
theorem walk_near {f : FR} {p1 : Option Addr} {k1 : Nat} {p2 : Option Addr} {k2 : Nat} {p3 : Option Addr} {k3 : Nat} (a : Option Addr) (n c : Nat) (xs : List Int) {W : World} {a0 a1 a2 : Addr} (sn : Sen W a0 a1 a2) (h1 : ¬ ((3000 : Int) < (n : Nat))) (h2 : ¬ ((3000 : Int) < (f.x.length : Nat))) (hF : Fr W (.agg #[.slice p1 f.d.length k1, .slice p2 f.s.length k2, .int .i64 f.t, .slice p3 f.x.length k3]) f) (hb : Buf W (.slice a n c) xs) :
    Calls Tryd.prog 4 #[.agg #[.slice p1 f.d.length k1, .slice p2 f.s.length k2, .int .i64 f.t, .slice p3 f.x.length k3], .slice a n c] W fun e w' => e = .returned (.bool true) ∧ Below W.heap.size W w' := by
  have h3 : ¬ ((3000 : Int) < (f.x.length : Nat)) := h2
  have HF0 := Lib.hid hF
  have HX0 := Lib.hid hb
  clear hF hb
  go_enter Tryd.func4, Tryd.ntmps4
  go_upto_region 1 with fail
  have hB : Blk (W.alloc (.cells #[.slice p1 f.d.length k1, .slice p2 f.s.length k2, .int .i64 f.t, .slice p3 f.x.length k3] 25)) W.heap.size #[.slice p1 f.d.length k1, .slice p2 f.s.length k2, .int .i64 f.t, .slice p3 f.x.length k3] 25 := Blk.new _ _ _ _ rfl
  have g0 : Grew W (W.alloc (.cells #[.slice p1 f.d.length k1, .slice p2 f.s.length k2, .int .i64 f.t, .slice p3 f.x.length k3] 25)) := (Grew.refl _).alloc _
  generalize (W.alloc (.cells #[.slice p1 f.d.length k1, .slice p2 f.s.length k2, .int .i64 f.t, .slice p3 f.x.length k3] 25)) = w0 at *
  generalize hlB : W.heap.size = B at *
  have HF := Lib.hid (HF0.out.grew g0)
  have HX := Lib.hid (HX0.out.grew g0)
  have y0 := hB.cell 0
  have y1 := hB.cell 1
  have y2 := hB.cell 2
  have y3 := hB.cell 3
  go_wp2_with fail
  refine (Put_c HF.out).mono ?_
  rintro e w1 ⟨ua, rfl, Ha, g1⟩
  obtain ⟨pa, ka, rfl, _, _⟩ := Ha.shape
  replace HF := Lib.hid (HF.out.grew g1)
  replace HX := Lib.hid (HX.out.grew g1)
  replace hB := hB.grew g1
  replace Ha := Lib.hid Ha
  have G1 := g0.trans g1
  clear g1
  clear y0 y1 y2 y3
  have y0 := hB.cell 0
  have y1 := hB.cell 1
  have y2 := hB.cell 2
  have y3 := hB.cell 3
  go_wp2_with fail
  refine (refPut16_c HF.out).mono ?_
  rintro e w2 ⟨ub, rfl, Hb, g2⟩
  obtain ⟨pb, kb, rfl, _, _⟩ := Hb.shape
  replace HF := Lib.hid (HF.out.grew g2)
  replace HX := Lib.hid (HX.out.grew g2)
  replace Ha := Lib.hid (Ha.out.grew g2)
  replace hB := hB.grew g2
  replace Hb := Lib.hid Hb
  have G2 := G1.trans g2
  clear g2
  clear y0 y1 y2 y3
  go_wp2_with fail
  refine (Get_c (sn.grew G2) HX.out).mono ?_
  rintro e w3 ⟨uv, rfl, Hv, g3⟩
  have Ev := Hv.shape
  obtain ⟨vp1, vk1, vp2, vk2, vp3, vk3, rfl, _, _, _⟩ := Ev
  replace HF := Lib.hid (HF.out.grew g3)
  replace HX := Lib.hid (HX.out.grew g3)
  replace Ha := Lib.hid (Ha.out.grew g3)
  replace Hb := Lib.hid (Hb.out.grew g3)
  replace hB := hB.grew g3
  replace Hv := Lib.hid Hv
  have G3 := G2.trans g3
  clear g3
  go_upto_region 6 with fail
  have g4 : Grew w3 (w3.alloc (.cells #[.slice vp1 (getF xs).d.length vk1, .slice vp2 (getF xs).s.length vk2, .int .i64 (getF xs).t, .slice vp3 (getF xs).x.length vk3] 25)) := (Grew.refl _).alloc _
  have hX9 : Blk (w3.alloc (.cells #[.slice vp1 (getF xs).d.length vk1, .slice vp2 (getF xs).s.length vk2, .int .i64 (getF xs).t, .slice vp3 (getF xs).x.length vk3] 25)) w3.heap.size #[.slice vp1 (getF xs).d.length vk1, .slice vp2 (getF xs).s.length vk2, .int .i64 (getF xs).t, .slice vp3 (getF xs).x.length vk3] 25 := Blk.new _ _ _ _ rfl
  replace HF := Lib.hid (HF.out.grew g4)
  replace HX := Lib.hid (HX.out.grew g4)
  replace Ha := Lib.hid (Ha.out.grew g4)
  replace Hb := Lib.hid (Hb.out.grew g4)
  replace Hv := Lib.hid (Hv.out.grew g4)
  replace hB := hB.grew g4
  have G4 := G3.trans g4
  clear g4
  generalize (w3.alloc (.cells #[.slice vp1 (getF xs).d.length vk1, .slice vp2 (getF xs).s.length vk2, .int .i64 (getF xs).t, .slice vp3 (getF xs).x.length vk3] 25)) = w4 at *
  generalize w3.heap.size = X9 at *
  go_wp2_with fail
  refine (refGet16_c HX.out).mono ?_
  rintro e w5 ⟨uw, rfl, Hw, g5⟩
  have Ew := Hw.shape
  obtain ⟨wp1, wk1, wp2, wk2, wp3, wk3, rfl, _, _, _⟩ := Ew
  replace HF := Lib.hid (HF.out.grew g5)
  replace HX := Lib.hid (HX.out.grew g5)
  replace Ha := Lib.hid (Ha.out.grew g5)
  replace Hb := Lib.hid (Hb.out.grew g5)
  replace Hv := Lib.hid (Hv.out.grew g5)
  replace hB := hB.grew g5
  replace hX9 := hX9.grew g5
  replace Hw := Lib.hid Hw
  have G5 := G4.trans g5
  clear g5
  go_upto_region 7 with fail
  have g6 : Grew w5 (w5.alloc (.cells #[.slice wp1 (getF xs).d.length wk1, .slice wp2 (getF xs).s.length wk2, .int .i64 (getF xs).t, .slice wp3 (getF xs).x.length wk3] 25)) := (Grew.refl _).alloc _
  have hX11 : Blk (w5.alloc (.cells #[.slice wp1 (getF xs).d.length wk1, .slice wp2 (getF xs).s.length wk2, .int .i64 (getF xs).t, .slice wp3 (getF xs).x.length wk3] 25)) w5.heap.size #[.slice wp1 (getF xs).d.length wk1, .slice wp2 (getF xs).s.length wk2, .int .i64 (getF xs).t, .slice wp3 (getF xs).x.length wk3] 25 := Blk.new _ _ _ _ rfl
  replace HF := Lib.hid (HF.out.grew g6)
  replace HX := Lib.hid (HX.out.grew g6)
  replace Ha := Lib.hid (Ha.out.grew g6)
  replace Hb := Lib.hid (Hb.out.grew g6)
  replace Hv := Lib.hid (Hv.out.grew g6)
  replace Hw := Lib.hid (Hw.out.grew g6)
  replace hB := hB.grew g6
  replace hX9 := hX9.grew g6
  have G6 := G5.trans g6
  clear g6
  generalize (w5.alloc (.cells #[.slice wp1 (getF xs).d.length wk1, .slice wp2 (getF xs).s.length wk2, .int .i64 (getF xs).t, .slice wp3 (getF xs).x.length wk3] 25)) = w6 at *
  generalize w5.heap.size = X11 at *
  have hsm := sameB_c w6 Ha.out Hb.out
  rw [decide_eq_true rfl] at hsm
  have HS := Lib.hid hsm
  have hsf := same16_c Hv.out Hw.out
  rw [show (decide ((getF xs).d = (getF xs).d) && decide ((getF xs).s = (getF xs).s) && ((getF xs).t == (getF xs).t) && decide ((getF xs).x = (getF xs).x)) = true by simp] at hsf
  have HSF := Lib.hid hsf
  have e1 : (putFE f == putFE f) = true := by simp
  have e2 : (getFE xs == getFE xs) = true := by simp
  clear hsm hsf
  have y0 := hX9.cell 0
  have y1 := hX9.cell 1
  have y2 := hX9.cell 2
  have y3 := hX9.cell 3
  have z0 := hX11.cell 0
  have z1 := hX11.cell 1
  have z2 := hX11.cell 2
  have z3 := hX11.cell 3
  go_wp2_with fail
  refine HS.out.mono ?_
  rintro e wi ⟨rfl, hi⟩
  obtain rfl := hi.symm
  go_wp2_with fail
  refine HSF.out.mono ?_
  rintro e wj ⟨rfl, gj⟩
  go_wp2_with fail
  refine (heads_c (G6.trans gj) (sn.grew (G6.trans gj))).mono ?_
  rintro e wh ⟨rfl, gh⟩
  go_wp2_with fail
  go_ret
  exact ⟨rfl, gh⟩
theorem walk (v : Value) (f : FR) (u : Value) (xs : List Int) {W : World} (sw : SenW W) (hF : Fr W v f) (_ : f.d.length ≤ 140737488355328 ∧ f.s.length ≤ 140737488355328 ∧ f.x.length ≤ 140737488355328) (hb : Buf W u xs) :
    Calls Tryd.prog 4 #[v, u] W fun e w' => e = .returned (.bool true) ∧ Below W.heap.size W w' := by
  obtain ⟨a0, a1, a2, sn⟩ := sw
  have hF' := hF
  obtain ⟨p1, k1, p2, k2, p3, k3, rfl, _, _, _⟩ := hF'.shape
  obtain ⟨a, c, rfl, _, _⟩ := hb.shape
  by_cases h1 : (3000 : Int) < (xs.length : Nat)
  · exact walk_far a _ c sn (.inl h1)
  · by_cases h2 : (3000 : Int) < (f.x.length : Nat)
    · exact walk_far a _ c sn (.inr ⟨h1, h2⟩)
    · exact walk_near a _ c xs sn h1 h2 hF hb
set_option maxRecDepth 100000 in
theorem lifted (os : Os) (started : os.Started) (H : Type) (enc : TypeId × Value → H) :
    ReturnsInHanded {} Tryd.checked os 4 .any (fun w args => (Rows.etherTellsSpec.pre enc Tryd.prog Tryd.f4 [] false w args ∧ laidMetH Tryd.prog laid2 w) ∧ sizedMet enc Tryd.prog Tryd.f4 (OpenSpec.ofChange Rows.etherTellsSpec) false w args) (Rows.etherTellsSpec.post enc Tryd.prog Tryd.f4 false true false false) := by
  refine returnsInHanded_of_change_and (C := Tryd.checked) (X := fun w _ => laidMetH Tryd.prog laid2 w) (fun _ _ _ hh h => h.of_heap hh) own started (by kernel_rfl) Tryd.func4
    (ChangeSpec.witness_shaped (enc := enc) (C := Tryd.checked) (os := os) (X := fun w _ => laidMetH Tryd.prog laid2 w) false (World.doorLaid Tryd.prog 400 os) #[.agg #[.slice none 0 0, .slice none 0 0, .int .i64 0, .slice none 0 0], .slice none 0 0] 8 rfl (World.shaped_of_RefB (by kernel_rfl) (by kernel_rfl)) (by kernel_rfl) (by kernel_rfl) (by kernel_rfl) (door_met os _)) ?_
  intro W base args ds gs before hval0 hW _ hz0 hL _
  obtain ⟨a0, a1, sn⟩ := sen_of_laid hL
  have hval : ∀ (j : Nat) t v, Tryd.f4.params[j]? = some t → args[j]? = some v → Value.okWide Tryd.prog W .any base t v := hval0
  have hW' := hW
  obtain ⟨p, q, hA0, hV, rfl, hfz, hnd⟩ := hW
  have hA : DataW.TrodAll enc Tryd.prog W 0 (fun _ => true) true Tryd.f4.params.toList args.toList ds p := hA0
  rw [Tryd.params4] at hA hval
  obtain ⟨v0, vs0, d0, ds0, p0, q0, hargs, rfl, rfl, h0, r'0⟩ := trodAll_cons hA
  obtain ⟨v1, vs1, d1, ds1, p1, q1, rfl, rfl, rfl, h1, r'1⟩ := trodAll_cons r'0
  obtain ⟨rfl, rfl, rfl⟩ := trodAll_nil r'1
  obtain rfl : args = #[v0, v1] := by cases args; simp_all
  obtain ⟨f0, k0, z0⟩ := open_frame (hval 0 25 v0 rfl rfl) h0
  have fits0 := z0 (fun m hm => by simpa using List.all_eq_true.1 hz0 _ (DataW.weights_mem_each (j := 0) (t := 25) rfl rfl m hm))
  obtain ⟨x1, k1⟩ := open_buf Tryd.underlying22 Tryd.underlying5 (by kernel_rfl) (hval 1 22 v1 rfl rfl) h1
  refine (walk v0 f0 v1 x1 sn k0 fits0 k1).mono fun e W' ⟨he, hb⟩ => ?_
  subst he
  exact ⟨_, rfl, law_post hW' rfl rfl laid (by kernel_rfl) rfl Tryd.underlying4 hb⟩

theorem over : Rows.etherTellsRow.holds Tryd.pinned (OpenSpec.ofChange Rows.etherTellsSpec) :=
  OpenClaim.holds_of_wide 4 Tryd.f4 rfl rfl rfl rfl rfl rfl rfl ⟨rfl, rfl, rfl, rfl, rfl⟩ rfl rfl rfl rfl rfl (by kernel_rfl) Tryd.func4 (by kernel_rfl)
    (of_decide_eq_true (by kernel_rfl)) (by unfold Func.isWrapper; first | (rw [if_pos (by decide +kernel)]; kernel_rfl) | (rw [if_neg (by decide +kernel)]; exact ⟨rfl, rfl⟩))
    (fun os started H enc _ => lifted os started H enc)

theorem proved : Rows.EtherTellsCardSaid :=
  Claim7.holds_tied_plain_at .later [] Rows.etherTellsCard.laidKinds true Rows.etherTellsCard.stood.harness Rows.etherTellsCard.stood.looks
    over (fun _ h => by cases h) (by kernel_rfl) (fun _ h => by cases h) etherTells_row_tie rfl ⟨rfl, rfl⟩ (by kernel_rfl) rfl
    (fun f fn hf hfn => by
      obtain rfl : f = 4 := Option.some.inj ((show Tryd.prog.funcNamed "drawbridge/drawbridgelaw16.EtherTells" = some 4 by kernel_rfl).symm.trans hf) |>.symm
      obtain rfl : fn = Tryd.f4 := (Option.some.inj (Tryd.func4.symm.trans hfn)).symm
      exact ⟨by kernel_rfl, fun j t ht => by
        have hall : (Tryd.f4.params.toList.all fun u => !Tryd.prog.wantsStandIn u) = true := by kernel_rfl
        have hm : t ∈ Tryd.f4.params.toList := by simpa using Array.mem_of_getElem? ht
        exact (show Tryd.prog.wantsStandIn t = false by simpa using List.all_eq_true.1 hall t hm)⟩)
    (by kernel_rfl)
#print axioms proved
end Go.Proofs.YtolfaelalmmefaaDoor.etherTells
