/-
  The statement UdpBack: that a datagram is there and back, whatever stands behind. For every datagram, addresses and bytes. Conditions: none but those of the statement's row (the package variables as the text lays them).
-/
import Derived.Test.YtcaafinjphionaaDoorUdH
import Derived.Test.YtcaafinjphionaaDoorUdW
import Derived.Test.YtcaafinjphionaaDoorUdQ
import Derived.Test.YtcaafinjphionaaDoorIpL
import Derived.Test.YtcaafinjphionaaDoorCards
import Derived.Test.YtcaafinjphionaaDoorTie
import Derived.SevenTiedAt
set_option maxRecDepth 4000
set_option linter.unusedVariables false
set_option linter.unusedSimpArgs false
namespace Go.Proofs.YtcaafinjphionaaDoor.udpBack
open Go.ChangeShapes Go.WideShapes Go.ChangeAt Go.RowKit

theorem walk_far (hD : HeadC) {f : UD} {p1 : Option Addr} {k1 : Nat} (src dst : Int) (a : Option Addr) (n c : Nat) {W : World} (sn : SenW W) (h : ((70000 : Int) < (f.x.length : Nat)) ∨ (¬ ((70000 : Int) < (f.x.length : Nat)) ∧ (100 : Int) < (n : Nat))) :
    Calls Tryd.prog 4 #[.agg #[.int .i64 f.s, .int .i64 f.d, .slice p1 f.x.length k1], .int .u32 src, .int .u32 dst, .slice a n c] W fun e w' => e = .returned (.bool true) ∧ Below W.heap.size W w' := by
  rcases h with h1 | ⟨h1, h2⟩
  all_goals
    go_enter Tryd.func4, Tryd.ntmps4
    go_upto_region 1 with fail
    have hB : Blk (W.alloc (.cells #[.int .i64 f.s, .int .i64 f.d, .slice p1 f.x.length k1] 24)) W.heap.size #[.int .i64 f.s, .int .i64 f.d, .slice p1 f.x.length k1] 24 := Blk.new _ _ _ _ rfl
    have g0 : Grew W (W.alloc (.cells #[.int .i64 f.s, .int .i64 f.d, .slice p1 f.x.length k1] 24)) := (Grew.refl _).alloc _
    generalize (W.alloc (.cells #[.int .i64 f.s, .int .i64 f.d, .slice p1 f.x.length k1] 24)) = w0 at *
    generalize hlB : W.heap.size = B at *
    have y0 := hB.cell 0
    have y1 := hB.cell 1
    have y2 := hB.cell 2
    go_wp2_with fail
    refine (hD (g0) (sn.grew (g0))).mono ?_
    rintro e wh ⟨rfl, gh⟩
    go_wp2_with fail
    go_ret
    exact ⟨rfl, gh⟩
set_option maxHeartbeats 1000000 in
theorem walk_no (hP : PutC) (hD : HeadC) {f : UD} {p1 : Option Addr} {k1 : Nat} (src dst : Int) (hsr : 0 ≤ src ∧ src < 4294967296) (hdr : 0 ≤ dst ∧ dst < 4294967296) (a : Option Addr) (n c : Nat) (ms : List Int) {W : World} (sn : SenW W) (h1 : ¬ ((70000 : Int) < (f.x.length : Nat))) (h2 : ¬ ((100 : Int) < (n : Nat))) (hok : okU f = false) (hF : Ud W (.agg #[.int .i64 f.s, .int .i64 f.d, .slice p1 f.x.length k1]) f) (hb : Buf W (.slice a n c) ms) :
    Calls Tryd.prog 4 #[.agg #[.int .i64 f.s, .int .i64 f.d, .slice p1 f.x.length k1], .int .u32 src, .int .u32 dst, .slice a n c] W fun e w' => e = .returned (.bool true) ∧ Below W.heap.size W w' := by
  have HFX := Lib.hid (show f.x.length ≤ 140737488355328 by omega)
  have HF0 := Lib.hid hF
  have HM0 := Lib.hid hb
  have HE := Lib.hid (show putUE f = 2 by unfold putUE; rw [hok]; rfl)
  have HP := Lib.hid (show putUB f src dst = [] by unfold putUB; rw [hok]; rfl)
  clear hF hb
  go_enter Tryd.func4, Tryd.ntmps4
  go_upto_region 1 with fail
  have hB : Blk (W.alloc (.cells #[.int .i64 f.s, .int .i64 f.d, .slice p1 f.x.length k1] 24)) W.heap.size #[.int .i64 f.s, .int .i64 f.d, .slice p1 f.x.length k1] 24 := Blk.new _ _ _ _ rfl
  have g0 : Grew W (W.alloc (.cells #[.int .i64 f.s, .int .i64 f.d, .slice p1 f.x.length k1] 24)) := (Grew.refl _).alloc _
  generalize (W.alloc (.cells #[.int .i64 f.s, .int .i64 f.d, .slice p1 f.x.length k1] 24)) = w0 at *
  generalize hlB : W.heap.size = B at *
  have HF := Lib.hid (HF0.out.grew g0)
  have HM := Lib.hid (HM0.out.grew g0)
  have y0 := hB.cell 0
  have y1 := hB.cell 1
  have y2 := hB.cell 2
  go_wp2_with fail
  refine (hP src dst hsr hdr HFX.out HF.out).mono ?_
  rintro e w1 ⟨ua, rfl, Ha, g1⟩
  rw [HE.out]
  rw [HP.out] at Ha
  obtain ⟨pa, ka, rfl, _, _⟩ := Ha.shape
  replace HF := Lib.hid (HF.out.grew g1)
  replace HM := Lib.hid (HM.out.grew g1)
  replace hB := hB.grew g1
  replace Ha := Lib.hid Ha
  have G1 := g0.trans g1
  clear g1
  clear y0 y1 y2
  go_wp2_with fail
  refine (hD (G1) (sn.grew (G1))).mono ?_
  rintro e wh ⟨rfl, gh⟩
  go_wp2_with fail
  go_ret
  exact ⟨rfl, gh⟩
set_option maxHeartbeats 4000000 in
theorem walk_yes (hP : PutC) (hG : GetC) (hD : HeadC) {f : UD} {p1 : Option Addr} {k1 : Nat} (src dst : Int) (hsr : 0 ≤ src ∧ src < 4294967296) (hdr : 0 ≤ dst ∧ dst < 4294967296) (a : Option Addr) (n c : Nat) (ms : List Int) {W : World} (sn : SenW W) (h1 : ¬ ((70000 : Int) < (f.x.length : Nat))) (h2 : ¬ ((100 : Int) < (n : Nat))) (hok : okU f = true) (hF : Ud W (.agg #[.int .i64 f.s, .int .i64 f.d, .slice p1 f.x.length k1]) f) (hb : Buf W (.slice a n c) ms) :
    Calls Tryd.prog 4 #[.agg #[.int .i64 f.s, .int .i64 f.d, .slice p1 f.x.length k1], .int .u32 src, .int .u32 dst, .slice a n c] W fun e w' => e = .returned (.bool true) ∧ Below W.heap.size W w' := by
  have HFX := Lib.hid (show f.x.length ≤ 140737488355328 by omega)
  have HF0 := Lib.hid hF
  have HM0 := Lib.hid hb
  obtain ⟨q1, r1, eq', hb1⟩ := hF.shape
  have hgp := get_put18 hok hb1.ok src dst ms
  have hk := okU_spec hok
  have hn := hb.lenEq.1
  obtain ⟨L, hL⟩ : ∃ L, L = ulN f := ⟨_, rfl⟩
  have hL8 : L = 8 + f.x.length := hL
  have HE := Lib.hid (show putUE f = 0 by unfold putUE; rw [hok]; rfl)
  have HP := Lib.hid (show putUB f src dst = putU f src dst by unfold putUB; rw [hok]; rfl)
  have HPL := Lib.hid (show (putU f src dst).length = L by rw [putU_len, hL])
  have HG1 := Lib.hid hgp.1
  have HG2 := Lib.hid hgp.2
  have EN1 := Lib.hid (show IntKind.i64.wrap (8 + (f.x.length : Int)) = (L : Int) by rw [IntWalk.i64_in _ (by omega)]; omega)
  have HL1 := Lib.hid (show ([] : List Int).length + (putU f src dst).length ≤ 140737488355328 by rw [HPL.out]; simp; omega)
  have HL2 := Lib.hid (show ([] ++ putU f src dst).length + ms.length ≤ 140737488355328 by rw [List.nil_append, HPL.out]; omega)
  have HL3 := Lib.hid (show (putU f src dst ++ ms).length ≤ 140737488355328 by rw [List.length_append, HPL.out]; omega)
  have H6 := Lib.hid (show (putU f src dst).getD 6 0 = ckU f src dst / 256 by rw [putU_list hok]; rfl)
  have H7 := Lib.hid (show (putU f src dst).getD 7 0 = ckU f src dst % 256 by rw [putU_list hok]; rfl)
  have k6 : (6 : Int) < (L : Nat) := by omega
  have k7 : (7 : Int) < (L : Nat) := by omega
  have k6n : 6 < L := by omega
  have k7n : 7 < L := by omega
  clear eq' hb1 hgp hk hn hL8 hL
  clear hF hb
  go_enter Tryd.func4, Tryd.ntmps4
  go_upto_region 1 with fail
  have hB : Blk (W.alloc (.cells #[.int .i64 f.s, .int .i64 f.d, .slice p1 f.x.length k1] 24)) W.heap.size #[.int .i64 f.s, .int .i64 f.d, .slice p1 f.x.length k1] 24 := Blk.new _ _ _ _ rfl
  have g0 : Grew W (W.alloc (.cells #[.int .i64 f.s, .int .i64 f.d, .slice p1 f.x.length k1] 24)) := (Grew.refl _).alloc _
  generalize (W.alloc (.cells #[.int .i64 f.s, .int .i64 f.d, .slice p1 f.x.length k1] 24)) = w0 at *
  generalize hlB : W.heap.size = B at *
  have HF := Lib.hid (HF0.out.grew g0)
  have HM := Lib.hid (HM0.out.grew g0)
  have y0 := hB.cell 0
  have y1 := hB.cell 1
  have y2 := hB.cell 2
  go_wp2_with fail
  refine (hP src dst hsr hdr HFX.out HF.out).mono ?_
  rintro e w1 ⟨ua, rfl, Ha, g1⟩
  rw [HE.out]
  rw [HP.out] at Ha
  obtain ⟨pa, ka, rfl, _, _⟩ := Ha.shape
  rw [HPL.out] at Ha ⊢
  replace HF := Lib.hid (HF.out.grew g1)
  replace HM := Lib.hid (HM.out.grew g1)
  replace hB := hB.grew g1
  replace Ha := Lib.hid Ha
  have G1 := g0.trans g1
  clear g1
  clear y0 y1 y2
  go_upto_region 6 with fail
  have ge : Grew w1 (w1.alloc (.cells #[] 5)) := (Grew.refl w1).alloc _
  have HEE := Lib.hid (Row.lit w1 w1.heap.size (Nat.le_refl _) #[] [] rfl (by unfold maxLen; simp) w1.heap.size rfl 0 rfl)
  have HBE := Lib.hid (Ha.out.grew ge)
  go_wp2_with (first
    | (refine wpList_append_b (W := w1) rfl (.tmp 39) (.tmp 40) rfl ge HEE.out HBE.out (by rfl) (by rfl) HL1.out ?_; intro v9 w9 R9 g9 y9; clear y9; have HMB := Lib.hid (HM.out.grew g9))
    | (refine wpList_append_b (W := w1) rfl (.tmp 41) (.tmp 42) rfl g9 R9.out HMB.out (by rfl) (by rfl) HL2.out ?_; intro v10 w10 R10 g10 y10; clear y10; have hc10 : Buf w10 v10 (putU f src dst ++ ms) := R10.out.buf (Ha.out.ok.append HM.out.ok); have HC10 := Lib.hid hc10; clear hc10; replace HF := Lib.hid (HF.out.grew g10); replace Ha := Lib.hid (Ha.out.grew g10); replace hB := hB.grew g10; have G10 := G1.trans g10))
  refine (hG src dst hsr hdr (sn.grew G10) HL3.out HC10.out).mono ?_
  rintro e w11 ⟨uv, rfl, Hv, g11⟩
  rw [HG1.out]
  rw [HG2.out] at Hv
  have Ev := Hv.shape
  obtain ⟨vp1, vk1, rfl, _⟩ := Ev
  replace HF := Lib.hid (HF.out.grew g11)
  replace Ha := Lib.hid (Ha.out.grew g11)
  replace hB := hB.grew g11
  replace Hv := Lib.hid Hv
  have G11 := G10.trans g11
  clear g11
  go_upto_region 7 with fail
  have g12 : Grew w11 (w11.alloc (.cells #[.int .i64 f.s, .int .i64 f.d, .slice vp1 f.x.length vk1] 24)) := (Grew.refl _).alloc _
  have hX11 : Blk (w11.alloc (.cells #[.int .i64 f.s, .int .i64 f.d, .slice vp1 f.x.length vk1] 24)) w11.heap.size #[.int .i64 f.s, .int .i64 f.d, .slice vp1 f.x.length vk1] 24 := Blk.new _ _ _ _ rfl
  replace HF := Lib.hid (HF.out.grew g12)
  replace Ha := Lib.hid (Ha.out.grew g12)
  replace Hv := Lib.hid (Hv.out.grew g12)
  replace hB := hB.grew g12
  have G12 := G11.trans g12
  clear g12
  generalize (w11.alloc (.cells #[.int .i64 f.s, .int .i64 f.d, .slice vp1 f.x.length vk1] 24)) = w12 at *
  generalize w11.heap.size = X11 at *
  obtain ⟨v1, v2, ev, hv1⟩ := HF.out.shape
  obtain ⟨u1, u2, ew, hw1⟩ := Hv.out.shape
  simp only [udV, Value.agg.injEq, Array.mk.injEq, List.cons.injEq, Value.slice.injEq, and_true, true_and] at ev ew
  obtain ⟨rfl, rfl⟩ := ev
  obtain ⟨rfl, rfl⟩ := ew
  have HV1 := Lib.hid hv1
  have HW1 := Lib.hid hw1
  clear hv1 hw1
  have hne : putU f src dst ≠ [] := by intro e; have := HPL.out; rw [e] at this; simp at this; omega
  obtain ⟨_, _, ea, _, hat⟩ := Ha.out.shape
  simp only [Value.slice.injEq] at ea
  obtain ⟨rfl, hn', rfl⟩ := ea
  clear hn'
  obtain ⟨ck, co, rfl, hat2⟩ := hat hne
  have HCL := Lib.hid (hat2.lt hne)
  have HC6 := Lib.hid (hat2 6 (by rw [HPL.out]; omega))
  have HC7 := Lib.hid (hat2 7 (by rw [HPL.out]; omega))
  rw [H6.out] at HC6
  rw [H7.out] at HC7
  clear hat hat2 hne h1 h2
  have ew1 := EN1.out
  have y0 := hB.cell 0
  have y1 := hB.cell 1
  have y2 := hB.cell 2
  have z0 := hX11.cell 0
  have z1 := hX11.cell 1
  have z2 := hX11.cell 2
  go_wp2_with fail
  refine (same18_c (f := f) HV1.out HW1.out).mono ?_
  rintro e x1 ⟨rfl, k1⟩
  have hPB := hB.grew k1
  have y0 := hPB.cell 0
  have y1 := hPB.cell 1
  have y2 := hPB.cell 2
  have z6 : x1.cell? ⟨ck, co + 6, none⟩ = some (.int .u8 (ckU f src dst / 256)) := by rw [(gcell k1).1 ck _ HCL.out]; exact HC6.out
  have z7 : x1.cell? ⟨ck, co + 7, none⟩ = some (.int .u8 (ckU f src dst % 256)) := by rw [(gcell k1).1 ck _ HCL.out]; exact HC7.out
  have hpos := ckU_pos f src dst
  generalize ckU f src dst = q at *
  by_cases q6 : q / 256 = 0
  · have d6 : (q / 256 != 0) = false := by simpa using q6
    have d7 : (q % 256 != 0) = true := by simp; omega
    clear hpos q6
    go_wp2_with fail
    refine (hD (G12.trans k1) (sn.grew (G12.trans k1))).mono ?_
    rintro e wh ⟨rfl, gh⟩
    go_wp2_with fail
    go_ret
    exact ⟨rfl, gh⟩
  · have d6 : (q / 256 != 0) = true := by simpa using q6
    clear hpos q6
    go_wp2_with fail
    refine (hD (G12.trans k1) (sn.grew (G12.trans k1))).mono ?_
    rintro e wh ⟨rfl, gh⟩
    go_wp2_with fail
    go_ret
    exact ⟨rfl, gh⟩
theorem walk0 (hP : PutC) (hG : GetC) (hD : HeadC) (v : Value) (f : UD) (src : Int) (hsr : 0 ≤ src ∧ src < 4294967296) (dst : Int) (hdr : 0 ≤ dst ∧ dst < 4294967296) (u : Value) (xs : List Int) {W : World} (sn : SenW W) (hF : Ud W v f) (_ : f.x.length ≤ 140737488355328) (hb : Buf W u xs) :
    Calls Tryd.prog 4 #[v, .int .u32 src, .int .u32 dst, u] W fun e w' => e = .returned (.bool true) ∧ Below W.heap.size W w' := by
  have hF' := hF
  obtain ⟨p1, k1, rfl, _⟩ := hF'.shape
  obtain ⟨a, c, rfl, _, _⟩ := hb.shape
  by_cases h1 : (70000 : Int) < (f.x.length : Nat)
  · exact walk_far hD src dst a _ c sn (.inl h1)
  · by_cases h2 : (100 : Int) < (xs.length : Nat)
    · exact walk_far hD src dst a _ c sn (.inr ⟨h1, h2⟩)
    · cases hok : okU f
      · exact walk_no hP hD src dst hsr hdr a _ c xs sn h1 h2 hok hF hb
      · exact walk_yes hP hG hD src dst hsr hdr a _ c xs sn h1 h2 hok hF hb
theorem walk (v : Value) (f : UD) (src : Int) (hsr : 0 ≤ src ∧ src < 4294967296) (dst : Int) (hdr : 0 ≤ dst ∧ dst < 4294967296) (u : Value) (xs : List Int) {W : World} (sn : SenW W) (hF : Ud W v f) (hl : f.x.length ≤ 140737488355328) (hb : Buf W u xs) :
    Calls Tryd.prog 4 #[v, .int .u32 src, .int .u32 dst, u] W fun e w' => e = .returned (.bool true) ∧ Below W.heap.size W w' :=
  walk0 put18_c get18_c heads_c v f src hsr dst hdr u xs sn hF hl hb
set_option maxRecDepth 100000 in
theorem lifted (os : Os) (started : os.Started) (H : Type) (enc : TypeId × Value → H) :
    ReturnsInHanded {} Tryd.checked os 4 .any (fun w args => (Rows.udpBackSpec.pre enc Tryd.prog Tryd.f4 [] false w args ∧ laidMetH Tryd.prog laid2 w) ∧ sizedMet enc Tryd.prog Tryd.f4 (OpenSpec.ofChange Rows.udpBackSpec) false w args) (Rows.udpBackSpec.post enc Tryd.prog Tryd.f4 false true false false) := by
  refine returnsInHanded_of_change_and (C := Tryd.checked) (X := fun w _ => laidMetH Tryd.prog laid2 w) (fun _ _ _ hh h => h.of_heap hh) own started (by kernel_rfl) Tryd.func4
    (ChangeSpec.witness_shaped (enc := enc) (C := Tryd.checked) (os := os) (X := fun w _ => laidMetH Tryd.prog laid2 w) false (World.doorLaid Tryd.prog 400 os) #[.agg #[.int .i64 0, .int .i64 0, .slice none 0 0], .int .u32 0, .int .u32 0, .slice none 0 0] 8 rfl (World.shaped_of_RefB (by kernel_rfl) (by kernel_rfl)) (by kernel_rfl) (by kernel_rfl) (by kernel_rfl) (door_met os _)) ?_
  intro W base args ds gs before hval0 hW _ hz0 hL _
  obtain ⟨a0, a1, sn⟩ := sen_of_laid hL
  have hval : ∀ (j : Nat) t v, Tryd.f4.params[j]? = some t → args[j]? = some v → Value.okWide Tryd.prog W .any base t v := hval0
  have hW' := hW
  obtain ⟨p, q, hA0, hV, rfl, hfz, hnd⟩ := hW
  have hA : DataW.TrodAll enc Tryd.prog W 0 (fun _ => true) true Tryd.f4.params.toList args.toList ds p := hA0
  rw [Tryd.params4] at hA hval
  obtain ⟨v0, vs0, d0, ds0, p0, q0, hargs, rfl, rfl, h0, r'0⟩ := trodAll_cons hA
  obtain ⟨v1, vs1, d1, ds1, p1, q1, rfl, rfl, rfl, h1, r'1⟩ := trodAll_cons r'0
  obtain ⟨v2, vs2, d2, ds2, p2, q2, rfl, rfl, rfl, h2, r'2⟩ := trodAll_cons r'1
  obtain ⟨v3, vs3, d3, ds3, p3, q3, rfl, rfl, rfl, h3, r'3⟩ := trodAll_cons r'2
  obtain ⟨rfl, rfl, rfl⟩ := trodAll_nil r'3
  obtain rfl : args = #[v0, v1, v2, v3] := by cases args; simp_all
  obtain ⟨f0, k0, z0⟩ := open_udp (hval 0 24 v0 rfl rfl) h0
  have fits0 := z0 (fun m hm => by simpa using List.all_eq_true.1 hz0 _ (DataW.weights_mem_each (j := 0) (t := 24) rfl rfl m hm))
  obtain ⟨a1, rfl, rfl, rfl, w1⟩ := open_int Tryd.underlying25 (hval 1 25 v1 rfl rfl) h1
  obtain ⟨a2, rfl, rfl, rfl, w2⟩ := open_int Tryd.underlying25 (hval 2 25 v2 rfl rfl) h2
  obtain ⟨x3, k3⟩ := open_buf Tryd.underlying22 Tryd.underlying5 (by kernel_rfl) (hval 3 22 v3 rfl rfl) h3
  refine (walk v0 f0 a1 (wf_u32 w1) a2 (wf_u32 w2) v3 x3 sn k0 fits0 k3).mono fun e W' ⟨he, hb⟩ => ?_
  subst he
  exact ⟨_, rfl, law_post hW' rfl rfl laid (by kernel_rfl) rfl Tryd.underlying4 hb⟩

theorem over : Rows.udpBackRow.holds Tryd.pinned (OpenSpec.ofChange Rows.udpBackSpec) :=
  OpenClaim.holds_of_wide 4 Tryd.f4 rfl rfl rfl rfl rfl rfl rfl ⟨rfl, rfl, rfl, rfl, rfl⟩ rfl rfl rfl rfl rfl (by kernel_rfl) Tryd.func4 (by kernel_rfl)
    (of_decide_eq_true (by kernel_rfl)) (by unfold Func.isWrapper; first | (rw [if_pos (by decide +kernel)]; kernel_rfl) | (rw [if_neg (by decide +kernel)]; exact ⟨rfl, rfl⟩))
    (fun os started H enc _ => lifted os started H enc)

theorem proved : Rows.UdpBackCardSaid :=
  Claim7.holds_tied_plain_at .later [] Rows.udpBackCard.laidKinds true Rows.udpBackCard.stood.harness Rows.udpBackCard.stood.looks
    over (fun _ h => by cases h) (by kernel_rfl) (fun _ h => by cases h) udpBack_row_tie rfl ⟨rfl, rfl⟩ (by kernel_rfl) rfl
    (fun f fn hf hfn => by
      obtain rfl : f = 4 := Option.some.inj ((show Tryd.prog.funcNamed "drawbridge/drawbridgelaw18.UdpBack" = some 4 by kernel_rfl).symm.trans hf) |>.symm
      obtain rfl : fn = Tryd.f4 := (Option.some.inj (Tryd.func4.symm.trans hfn)).symm
      exact ⟨by kernel_rfl, fun j t ht => by
        have hall : (Tryd.f4.params.toList.all fun u => !Tryd.prog.wantsStandIn u) = true := by kernel_rfl
        have hm : t ∈ Tryd.f4.params.toList := by simpa using Array.mem_of_getElem? ht
        exact (show Tryd.prog.wantsStandIn t = false by simpa using List.all_eq_true.1 hall t hm)⟩)
    (by kernel_rfl)
#print axioms proved
end Go.Proofs.YtcaafinjphionaaDoor.udpBack
