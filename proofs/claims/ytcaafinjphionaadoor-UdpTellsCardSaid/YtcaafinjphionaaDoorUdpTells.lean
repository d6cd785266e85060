/-
  The statement UdpTells: which bytes datagrams are, and which datagrams bytes, as the document's own answer says. For every datagram, right or not, addresses and bytes. Conditions: none but those of the statement's row (the package variables as the text lays them).
-/
import Derived.Test.YtcaafinjphionaaDoorUdH
import Derived.Test.YtcaafinjphionaaDoorUdW
import Derived.Test.YtcaafinjphionaaDoorUdQ
import Derived.Test.YtcaafinjphionaaDoorIpL
import Derived.Test.YtcaafinjphionaaDoorCards
import Derived.Test.YtcaafinjphionaaDoorTie
import Derived.SevenTiedAt
set_option maxRecDepth 4000
set_option linter.unusedVariables false
set_option linter.unusedSimpArgs false
namespace Go.Proofs.YtcaafinjphionaaDoor.udpTells
open Go.ChangeShapes Go.WideShapes Go.ChangeAt Go.RowKit

theorem walk_far (hD : HeadC) {f : UD} {p1 : Option Addr} {k1 : Nat} (src dst : Int) (a : Option Addr) (n c : Nat) {W : World} (sn : SenW W) (h : ((70000 : Int) < (n : Nat)) ∨ (¬ ((70000 : Int) < (n : Nat)) ∧ (70000 : Int) < (f.x.length : Nat))) :
    Calls Tryd.prog 3 #[.agg #[.int .i64 f.s, .int .i64 f.d, .slice p1 f.x.length k1], .int .u32 src, .int .u32 dst, .slice a n c] W fun e w' => e = .returned (.bool true) ∧ Below W.heap.size W w' := by
  rcases h with h1 | ⟨h1, h2⟩
  all_goals
    go_enter Tryd.func3, Tryd.ntmps3
    go_upto_region 1 with fail
    have hB : Blk (W.alloc (.cells #[.int .i64 f.s, .int .i64 f.d, .slice p1 f.x.length k1] 24)) W.heap.size #[.int .i64 f.s, .int .i64 f.d, .slice p1 f.x.length k1] 24 := Blk.new _ _ _ _ rfl
    have g0 : Grew W (W.alloc (.cells #[.int .i64 f.s, .int .i64 f.d, .slice p1 f.x.length k1] 24)) := (Grew.refl _).alloc _
    generalize (W.alloc (.cells #[.int .i64 f.s, .int .i64 f.d, .slice p1 f.x.length k1] 24)) = w0 at *
    generalize hlB : W.heap.size = B at *
    have y0 := hB.cell 0
    have y1 := hB.cell 1
    have y2 := hB.cell 2
    go_wp2_with fail
    refine (hD (g0) (sn.grew (g0))).mono ?_
    rintro e wh ⟨rfl, gh⟩
    go_wp2_with fail
    go_ret
    exact ⟨rfl, gh⟩
set_option maxHeartbeats 4000000 in
theorem walk_near (hP : PutC) (hG : GetC) (hD : HeadC) {f : UD} {p1 : Option Addr} {k1 : Nat} (src dst : Int) (hsr : 0 ≤ src ∧ src < 4294967296) (hdr : 0 ≤ dst ∧ dst < 4294967296) (a : Option Addr) (n c : Nat) (xs : List Int) {W : World} (sn : SenW W) (h1 : ¬ ((70000 : Int) < (n : Nat))) (h2 : ¬ ((70000 : Int) < (f.x.length : Nat))) (hF : Ud W (.agg #[.int .i64 f.s, .int .i64 f.d, .slice p1 f.x.length k1]) f) (hb : Buf W (.slice a n c) xs) :
    Calls Tryd.prog 3 #[.agg #[.int .i64 f.s, .int .i64 f.d, .slice p1 f.x.length k1], .int .u32 src, .int .u32 dst, .slice a n c] W fun e w' => e = .returned (.bool true) ∧ Below W.heap.size W w' := by
  have h3 : ¬ ((70000 : Int) < (f.x.length : Nat)) := h2
  have HFX := Lib.hid (show f.x.length ≤ 140737488355328 by omega)
  have HXL := Lib.hid (show xs.length ≤ 140737488355328 by have := hb.lenEq.1; omega)
  have HF0 := Lib.hid hF
  have HX0 := Lib.hid hb
  clear hF hb
  go_enter Tryd.func3, Tryd.ntmps3
  go_upto_region 1 with fail
  have hB : Blk (W.alloc (.cells #[.int .i64 f.s, .int .i64 f.d, .slice p1 f.x.length k1] 24)) W.heap.size #[.int .i64 f.s, .int .i64 f.d, .slice p1 f.x.length k1] 24 := Blk.new _ _ _ _ rfl
  have g0 : Grew W (W.alloc (.cells #[.int .i64 f.s, .int .i64 f.d, .slice p1 f.x.length k1] 24)) := (Grew.refl _).alloc _
  generalize (W.alloc (.cells #[.int .i64 f.s, .int .i64 f.d, .slice p1 f.x.length k1] 24)) = w0 at *
  generalize hlB : W.heap.size = B at *
  have HF := Lib.hid (HF0.out.grew g0)
  have HX := Lib.hid (HX0.out.grew g0)
  have y0 := hB.cell 0
  have y1 := hB.cell 1
  have y2 := hB.cell 2
  go_wp2_with fail
  refine (hP src dst hsr hdr HFX.out HF.out).mono ?_
  rintro e w1 ⟨ua, rfl, Ha, g1⟩
  obtain ⟨pa, ka, rfl, _, _⟩ := Ha.shape
  replace HF := Lib.hid (HF.out.grew g1)
  replace HX := Lib.hid (HX.out.grew g1)
  replace hB := hB.grew g1
  replace Ha := Lib.hid Ha
  have G1 := g0.trans g1
  clear g1
  clear y0 y1 y2
  have y0 := hB.cell 0
  have y1 := hB.cell 1
  have y2 := hB.cell 2
  go_wp2_with fail
  refine (refPut18_c src dst hsr hdr HF.out).mono ?_
  rintro e w2 ⟨ub, rfl, Hb, g2⟩
  obtain ⟨pb, kb, rfl, _, _⟩ := Hb.shape
  replace HF := Lib.hid (HF.out.grew g2)
  replace HX := Lib.hid (HX.out.grew g2)
  replace Ha := Lib.hid (Ha.out.grew g2)
  replace hB := hB.grew g2
  replace Hb := Lib.hid Hb
  have G2 := G1.trans g2
  clear g2
  clear y0 y1 y2
  go_wp2_with fail
  refine (hG src dst hsr hdr (sn.grew G2) HXL.out HX.out).mono ?_
  rintro e w3 ⟨uv, rfl, Hv, g3⟩
  have Ev := Hv.shape
  obtain ⟨vp1, vk1, rfl, _⟩ := Ev
  replace HF := Lib.hid (HF.out.grew g3)
  replace HX := Lib.hid (HX.out.grew g3)
  replace Ha := Lib.hid (Ha.out.grew g3)
  replace Hb := Lib.hid (Hb.out.grew g3)
  replace hB := hB.grew g3
  replace Hv := Lib.hid Hv
  have G3 := G2.trans g3
  clear g3
  go_upto_region 6 with fail
  have g4 : Grew w3 (w3.alloc (.cells #[.int .i64 (getU xs src dst).s, .int .i64 (getU xs src dst).d, .slice vp1 (getU xs src dst).x.length vk1] 24)) := (Grew.refl _).alloc _
  have hX13 : Blk (w3.alloc (.cells #[.int .i64 (getU xs src dst).s, .int .i64 (getU xs src dst).d, .slice vp1 (getU xs src dst).x.length vk1] 24)) w3.heap.size #[.int .i64 (getU xs src dst).s, .int .i64 (getU xs src dst).d, .slice vp1 (getU xs src dst).x.length vk1] 24 := Blk.new _ _ _ _ rfl
  replace HF := Lib.hid (HF.out.grew g4)
  replace HX := Lib.hid (HX.out.grew g4)
  replace Ha := Lib.hid (Ha.out.grew g4)
  replace Hb := Lib.hid (Hb.out.grew g4)
  replace Hv := Lib.hid (Hv.out.grew g4)
  replace hB := hB.grew g4
  have G4 := G3.trans g4
  clear g4
  generalize (w3.alloc (.cells #[.int .i64 (getU xs src dst).s, .int .i64 (getU xs src dst).d, .slice vp1 (getU xs src dst).x.length vk1] 24)) = w4 at *
  generalize w3.heap.size = X13 at *
  go_wp2_with fail
  refine (refGet18_c src dst hsr hdr HX.out).mono ?_
  rintro e w5 ⟨ut, rfl, Ht, g5⟩
  have Et := Ht.shape
  obtain ⟨tp1, tk1, rfl, _⟩ := Et
  replace HF := Lib.hid (HF.out.grew g5)
  replace HX := Lib.hid (HX.out.grew g5)
  replace Ha := Lib.hid (Ha.out.grew g5)
  replace Hb := Lib.hid (Hb.out.grew g5)
  replace Hv := Lib.hid (Hv.out.grew g5)
  replace hB := hB.grew g5
  replace hX13 := hX13.grew g5
  replace Ht := Lib.hid Ht
  have G5 := G4.trans g5
  clear g5
  go_upto_region 7 with fail
  have g6 : Grew w5 (w5.alloc (.cells #[.int .i64 (getU xs src dst).s, .int .i64 (getU xs src dst).d, .slice tp1 (getU xs src dst).x.length tk1] 24)) := (Grew.refl _).alloc _
  have hX15 : Blk (w5.alloc (.cells #[.int .i64 (getU xs src dst).s, .int .i64 (getU xs src dst).d, .slice tp1 (getU xs src dst).x.length tk1] 24)) w5.heap.size #[.int .i64 (getU xs src dst).s, .int .i64 (getU xs src dst).d, .slice tp1 (getU xs src dst).x.length tk1] 24 := Blk.new _ _ _ _ rfl
  replace HF := Lib.hid (HF.out.grew g6)
  replace HX := Lib.hid (HX.out.grew g6)
  replace Ha := Lib.hid (Ha.out.grew g6)
  replace Hb := Lib.hid (Hb.out.grew g6)
  replace Hv := Lib.hid (Hv.out.grew g6)
  replace Ht := Lib.hid (Ht.out.grew g6)
  replace hB := hB.grew g6
  replace hX13 := hX13.grew g6
  have G6 := G5.trans g6
  clear g6
  generalize (w5.alloc (.cells #[.int .i64 (getU xs src dst).s, .int .i64 (getU xs src dst).d, .slice tp1 (getU xs src dst).x.length tk1] 24)) = w6 at *
  generalize w5.heap.size = X15 at *
  have E1 := Lib.hid (show (putUE f == putUE f) = true by simp)
  have E2 := Lib.hid (show (getUE xs src dst == getUE xs src dst) = true by simp)
  obtain ⟨v1, v2, ev, hv1⟩ := Hv.out.shape
  obtain ⟨u1, u2, ew, hw1⟩ := Ht.out.shape
  simp only [udV, Value.agg.injEq, Array.mk.injEq, List.cons.injEq, Value.slice.injEq, and_true, true_and] at ev ew
  obtain ⟨rfl, rfl⟩ := ev
  obtain ⟨rfl, rfl⟩ := ew
  have HV1 := Lib.hid hv1
  have HW1 := Lib.hid hw1
  clear hv1 hw1
  clear h1 h2 h3
  have ew1 := E1.out
  have ew2 := E2.out
  go_wp2_with fail
  refine (same_true18 Ha.out Hb.out).mono ?_
  rintro e x1 ⟨rfl, k1⟩
  have hP13 := hX13.grew k1
  have hP15 := hX15.grew k1
  have y0 := hP13.cell 0
  have y1 := hP13.cell 1
  have y2 := hP13.cell 2
  have z0 := hP15.cell 0
  have z1 := hP15.cell 1
  have z2 := hP15.cell 2
  go_wp2_with fail
  refine (same18_c (f := getU xs src dst) (HV1.out.grew k1) (HW1.out.grew k1)).mono ?_
  rintro e x2 ⟨rfl, k2⟩
  go_wp2_with fail
  refine (hD (G6.trans (k1.trans k2)) (sn.grew (G6.trans (k1.trans k2)))).mono ?_
  rintro e wh ⟨rfl, gh⟩
  go_wp2_with fail
  go_ret
  exact ⟨rfl, gh⟩
theorem walk0 (hP : PutC) (hG : GetC) (hD : HeadC) (v : Value) (f : UD) (src : Int) (hsr : 0 ≤ src ∧ src < 4294967296) (dst : Int) (hdr : 0 ≤ dst ∧ dst < 4294967296) (u : Value) (xs : List Int) {W : World} (sn : SenW W) (hF : Ud W v f) (_ : f.x.length ≤ 140737488355328) (hb : Buf W u xs) :
    Calls Tryd.prog 3 #[v, .int .u32 src, .int .u32 dst, u] W fun e w' => e = .returned (.bool true) ∧ Below W.heap.size W w' := by
  have hF' := hF
  obtain ⟨p1, k1, rfl, _⟩ := hF'.shape
  obtain ⟨a, c, rfl, _, _⟩ := hb.shape
  by_cases h1 : (70000 : Int) < (xs.length : Nat)
  · exact walk_far hD src dst a _ c sn (.inl h1)
  · by_cases h2 : (70000 : Int) < (f.x.length : Nat)
    · exact walk_far hD src dst a _ c sn (.inr ⟨h1, h2⟩)
    · exact walk_near hP hG hD src dst hsr hdr a _ c xs sn h1 h2 hF hb
theorem walk (v : Value) (f : UD) (src : Int) (hsr : 0 ≤ src ∧ src < 4294967296) (dst : Int) (hdr : 0 ≤ dst ∧ dst < 4294967296) (u : Value) (xs : List Int) {W : World} (sn : SenW W) (hF : Ud W v f) (hl : f.x.length ≤ 140737488355328) (hb : Buf W u xs) :
    Calls Tryd.prog 3 #[v, .int .u32 src, .int .u32 dst, u] W fun e w' => e = .returned (.bool true) ∧ Below W.heap.size W w' :=
  walk0 put18_c get18_c heads_c v f src hsr dst hdr u xs sn hF hl hb
set_option maxRecDepth 100000 in
theorem lifted (os : Os) (started : os.Started) (H : Type) (enc : TypeId × Value → H) :
    ReturnsInHanded {} Tryd.checked os 3 .any (fun w args => (Rows.udpTellsSpec.pre enc Tryd.prog Tryd.f3 [] false w args ∧ laidMetH Tryd.prog laid2 w) ∧ sizedMet enc Tryd.prog Tryd.f3 (OpenSpec.ofChange Rows.udpTellsSpec) false w args) (Rows.udpTellsSpec.post enc Tryd.prog Tryd.f3 false true false false) := by
  refine returnsInHanded_of_change_and (C := Tryd.checked) (X := fun w _ => laidMetH Tryd.prog laid2 w) (fun _ _ _ hh h => h.of_heap hh) own started (by kernel_rfl) Tryd.func3
    (ChangeSpec.witness_shaped (enc := enc) (C := Tryd.checked) (os := os) (X := fun w _ => laidMetH Tryd.prog laid2 w) false (World.doorLaid Tryd.prog 400 os) #[.agg #[.int .i64 0, .int .i64 0, .slice none 0 0], .int .u32 0, .int .u32 0, .slice none 0 0] 8 rfl (World.shaped_of_RefB (by kernel_rfl) (by kernel_rfl)) (by kernel_rfl) (by kernel_rfl) (by kernel_rfl) (door_met os _)) ?_
  intro W base args ds gs before hval0 hW _ hz0 hL _
  obtain ⟨a0, a1, sn⟩ := sen_of_laid hL
  have hval : ∀ (j : Nat) t v, Tryd.f3.params[j]? = some t → args[j]? = some v → Value.okWide Tryd.prog W .any base t v := hval0
  have hW' := hW
  obtain ⟨p, q, hA0, hV, rfl, hfz, hnd⟩ := hW
  have hA : DataW.TrodAll enc Tryd.prog W 0 (fun _ => true) true Tryd.f3.params.toList args.toList ds p := hA0
  rw [Tryd.params3] at hA hval
  obtain ⟨v0, vs0, d0, ds0, p0, q0, hargs, rfl, rfl, h0, r'0⟩ := trodAll_cons hA
  obtain ⟨v1, vs1, d1, ds1, p1, q1, rfl, rfl, rfl, h1, r'1⟩ := trodAll_cons r'0
  obtain ⟨v2, vs2, d2, ds2, p2, q2, rfl, rfl, rfl, h2, r'2⟩ := trodAll_cons r'1
  obtain ⟨v3, vs3, d3, ds3, p3, q3, rfl, rfl, rfl, h3, r'3⟩ := trodAll_cons r'2
  obtain ⟨rfl, rfl, rfl⟩ := trodAll_nil r'3
  obtain rfl : args = #[v0, v1, v2, v3] := by cases args; simp_all
  obtain ⟨f0, k0, z0⟩ := open_udp (hval 0 24 v0 rfl rfl) h0
  have fits0 := z0 (fun m hm => by simpa using List.all_eq_true.1 hz0 _ (DataW.weights_mem_each (j := 0) (t := 24) rfl rfl m hm))
  obtain ⟨a1, rfl, rfl, rfl, w1⟩ := open_int Tryd.underlying25 (hval 1 25 v1 rfl rfl) h1
  obtain ⟨a2, rfl, rfl, rfl, w2⟩ := open_int Tryd.underlying25 (hval 2 25 v2 rfl rfl) h2
  obtain ⟨x3, k3⟩ := open_buf Tryd.underlying22 Tryd.underlying5 (by kernel_rfl) (hval 3 22 v3 rfl rfl) h3
  refine (walk v0 f0 a1 (wf_u32 w1) a2 (wf_u32 w2) v3 x3 sn k0 fits0 k3).mono fun e W' ⟨he, hb⟩ => ?_
  subst he
  exact ⟨_, rfl, law_post hW' rfl rfl laid (by kernel_rfl) rfl Tryd.underlying4 hb⟩

theorem over : Rows.udpTellsRow.holds Tryd.pinned (OpenSpec.ofChange Rows.udpTellsSpec) :=
  OpenClaim.holds_of_wide 3 Tryd.f3 rfl rfl rfl rfl rfl rfl rfl ⟨rfl, rfl, rfl, rfl, rfl⟩ rfl rfl rfl rfl rfl (by kernel_rfl) Tryd.func3 (by kernel_rfl)
    (of_decide_eq_true (by kernel_rfl)) (by unfold Func.isWrapper; first | (rw [if_pos (by decide +kernel)]; kernel_rfl) | (rw [if_neg (by decide +kernel)]; exact ⟨rfl, rfl⟩))
    (fun os started H enc _ => lifted os started H enc)

theorem proved : Rows.UdpTellsCardSaid :=
  Claim7.holds_tied_plain_at .later [] Rows.udpTellsCard.laidKinds true Rows.udpTellsCard.stood.harness Rows.udpTellsCard.stood.looks
    over (fun _ h => by cases h) (by kernel_rfl) (fun _ h => by cases h) udpTells_row_tie rfl ⟨rfl, rfl⟩ (by kernel_rfl) rfl
    (fun f fn hf hfn => by
      obtain rfl : f = 3 := Option.some.inj ((show Tryd.prog.funcNamed "drawbridge/drawbridgelaw18.UdpTells" = some 3 by kernel_rfl).symm.trans hf) |>.symm
      obtain rfl : fn = Tryd.f3 := (Option.some.inj (Tryd.func3.symm.trans hfn)).symm
      exact ⟨by kernel_rfl, fun j t ht => by
        have hall : (Tryd.f3.params.toList.all fun u => !Tryd.prog.wantsStandIn u) = true := by kernel_rfl
        have hm : t ∈ Tryd.f3.params.toList := by simpa using Array.mem_of_getElem? ht
        exact (show Tryd.prog.wantsStandIn t = false by simpa using List.all_eq_true.1 hall t hm)⟩)
    (by kernel_rfl)
#print axioms proved
end Go.Proofs.YtcaafinjphionaaDoor.udpTells
