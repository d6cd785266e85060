/-
  The statement UdpTurned: that a datagram with one bit of its data turned is read as it was by nobody, and that addresses turned round are taken. For every datagram, addresses and number. Conditions: none but those of the statement's row (the package variables as the text lays them).
-/
import Derived.Test.YtcaafinjphionaaDoorUdH
import Derived.Test.YtcaafinjphionaaDoorUdW
import Derived.Test.YtcaafinjphionaaDoorUdQ
import Derived.Test.YtcaafinjphionaaDoorIpL
import Derived.Test.YtcaafinjphionaaDoorCards
import Derived.Test.YtcaafinjphionaaDoorTie
import Derived.SevenTiedAt
set_option maxRecDepth 4000
set_option linter.unusedVariables false
set_option linter.unusedSimpArgs false
namespace Go.Proofs.YtcaafinjphionaaDoor.udpTurned
open Go.ChangeShapes Go.WideShapes Go.ChangeAt Go.RowKit

theorem walk_far (hD : HeadC) {f : UD} {p1 : Option Addr} {k1 : Nat} (src dst bit : Int) {W : World} (sn : SenW W) (h : ((3000 : Int) < (f.x.length : Nat)) ∨ (¬ ((3000 : Int) < (f.x.length : Nat)) ∧ ((f.x.length : Nat) : Int) = 0)) :
    Calls Tryd.prog 5 #[.agg #[.int .i64 f.s, .int .i64 f.d, .slice p1 f.x.length k1], .int .u32 src, .int .u32 dst, .int .i64 bit] W fun e w' => e = .returned (.bool true) ∧ Below W.heap.size W w' := by
  rcases h with h1 | ⟨h1, h2⟩
  all_goals
    go_enter Tryd.func5, Tryd.ntmps5
    go_upto_region 1 with fail
    have hB : Blk (W.alloc (.cells #[.int .i64 f.s, .int .i64 f.d, .slice p1 f.x.length k1] 24)) W.heap.size #[.int .i64 f.s, .int .i64 f.d, .slice p1 f.x.length k1] 24 := Blk.new _ _ _ _ rfl
    have g0 : Grew W (W.alloc (.cells #[.int .i64 f.s, .int .i64 f.d, .slice p1 f.x.length k1] 24)) := (Grew.refl _).alloc _
    generalize (W.alloc (.cells #[.int .i64 f.s, .int .i64 f.d, .slice p1 f.x.length k1] 24)) = w0 at *
    generalize hlB : W.heap.size = B at *
    have y0 := hB.cell 0
    have y1 := hB.cell 1
    have y2 := hB.cell 2
    go_wp2_with fail
    refine (hD (g0) (sn.grew (g0))).mono ?_
    rintro e wh ⟨rfl, gh⟩
    go_wp2_with fail
    go_ret
    exact ⟨rfl, gh⟩
set_option maxHeartbeats 1000000 in
theorem walk_no (hP : PutC) (hD : HeadC) {f : UD} {p1 : Option Addr} {k1 : Nat} (src dst : Int) (hsr : 0 ≤ src ∧ src < 4294967296) (hdr : 0 ≤ dst ∧ dst < 4294967296) (bit : Int) {W : World} (sn : SenW W) (h1 : ¬ ((3000 : Int) < (f.x.length : Nat))) (h2 : ¬ (((f.x.length : Nat) : Int) = 0)) (hok : okU f = false) (hF : Ud W (.agg #[.int .i64 f.s, .int .i64 f.d, .slice p1 f.x.length k1]) f) :
    Calls Tryd.prog 5 #[.agg #[.int .i64 f.s, .int .i64 f.d, .slice p1 f.x.length k1], .int .u32 src, .int .u32 dst, .int .i64 bit] W fun e w' => e = .returned (.bool true) ∧ Below W.heap.size W w' := by
  have HFX := Lib.hid (show f.x.length ≤ 140737488355328 by omega)
  have HF0 := Lib.hid hF
  have HE := Lib.hid (show putUE f = 2 by unfold putUE; rw [hok]; rfl)
  have HP := Lib.hid (show putUB f src dst = [] by unfold putUB; rw [hok]; rfl)
  clear hF
  go_enter Tryd.func5, Tryd.ntmps5
  go_upto_region 1 with fail
  have hB : Blk (W.alloc (.cells #[.int .i64 f.s, .int .i64 f.d, .slice p1 f.x.length k1] 24)) W.heap.size #[.int .i64 f.s, .int .i64 f.d, .slice p1 f.x.length k1] 24 := Blk.new _ _ _ _ rfl
  have g0 : Grew W (W.alloc (.cells #[.int .i64 f.s, .int .i64 f.d, .slice p1 f.x.length k1] 24)) := (Grew.refl _).alloc _
  generalize (W.alloc (.cells #[.int .i64 f.s, .int .i64 f.d, .slice p1 f.x.length k1] 24)) = w0 at *
  generalize hlB : W.heap.size = B at *
  have HF := Lib.hid (HF0.out.grew g0)
  have y0 := hB.cell 0
  have y1 := hB.cell 1
  have y2 := hB.cell 2
  go_wp2_with fail
  refine (hP src dst hsr hdr HFX.out HF.out).mono ?_
  rintro e w1 ⟨ua, rfl, Ha, g1⟩
  rw [HE.out]
  rw [HP.out] at Ha
  obtain ⟨pa, ka, rfl, _, _⟩ := Ha.shape
  replace HF := Lib.hid (HF.out.grew g1)
  replace hB := hB.grew g1
  replace Ha := Lib.hid Ha
  have G1 := g0.trans g1
  clear g1
  clear y0 y1 y2
  go_wp2_with fail
  refine (hD (G1) (sn.grew (G1))).mono ?_
  rintro e wh ⟨rfl, gh⟩
  go_wp2_with fail
  go_ret
  exact ⟨rfl, gh⟩
set_option maxHeartbeats 4000000 in
theorem walk_yes (hP : PutC) (hG : GetC) (hD : HeadC) {f : UD} {p1 : Option Addr} {k1 : Nat} (src dst : Int) (hsr : 0 ≤ src ∧ src < 4294967296) (hdr : 0 ≤ dst ∧ dst < 4294967296) (bit : Int) (hb0 : -9223372036854775808 ≤ bit ∧ bit ≤ 9223372036854775807) {W : World} (sn : SenW W) (h1 : ¬ ((3000 : Int) < (f.x.length : Nat))) (h2 : ¬ (((f.x.length : Nat) : Int) = 0)) (hok : okU f = true) (hF : Ud W (.agg #[.int .i64 f.s, .int .i64 f.d, .slice p1 f.x.length k1]) f) :
    Calls Tryd.prog 5 #[.agg #[.int .i64 f.s, .int .i64 f.d, .slice p1 f.x.length k1], .int .u32 src, .int .u32 dst, .int .i64 bit] W fun e w' => e = .returned (.bool true) ∧ Below W.heap.size W w' := by
  have HFX := Lib.hid (show f.x.length ≤ 140737488355328 by omega)
  have HF0 := Lib.hid hF
  obtain ⟨q1, r1, eq', hb1⟩ := hF.shape
  have hgp := get_put18 hok hb1.ok src dst []
  rw [List.append_nil] at hgp
  have hk := okU_spec hok
  obtain ⟨N, hN⟩ : ∃ N, N = f.x.length := ⟨_, rfl⟩
  obtain ⟨L, hL⟩ : ∃ L, L = ulN f := ⟨_, rfl⟩
  have hL8 : L = 8 + N := by rw [hL, hN]; rfl
  have hN0 : 0 < N := by omega
  have hN1 : N ≤ 3000 := by omega
  have HE := Lib.hid (show putUE f = 0 by unfold putUE; rw [hok]; rfl)
  have HP := Lib.hid (show putUB f src dst = putU f src dst by unfold putUB; rw [hok]; rfl)
  have HPL := Lib.hid (show (putU f src dst).length = L by rw [putU_len, hL])
  have HG1 := Lib.hid (show getUE (putU f src dst) dst src = 0 by rw [getUE_turned]; exact hgp.1)
  have HXL := Lib.hid (show (putU f src dst).length ≤ 140737488355328 by rw [HPL.out]; omega)
  have HL1 := Lib.hid (show ([] : List Int).length + (putU f src dst).length ≤ 140737488355328 by rw [HPL.out]; simp; omega)
  have HXK := Lib.hid hb1.ok
  have HNX := Lib.hid hN
  have HLN := Lib.hid hL8
  have HOK := Lib.hid hok
  clear eq' hb1 hgp hk hL8 hL hN hok hN0 hN1
  clear hF
  go_enter Tryd.func5, Tryd.ntmps5
  go_upto_region 1 with fail
  have hB : Blk (W.alloc (.cells #[.int .i64 f.s, .int .i64 f.d, .slice p1 f.x.length k1] 24)) W.heap.size #[.int .i64 f.s, .int .i64 f.d, .slice p1 f.x.length k1] 24 := Blk.new _ _ _ _ rfl
  have g0 : Grew W (W.alloc (.cells #[.int .i64 f.s, .int .i64 f.d, .slice p1 f.x.length k1] 24)) := (Grew.refl _).alloc _
  generalize (W.alloc (.cells #[.int .i64 f.s, .int .i64 f.d, .slice p1 f.x.length k1] 24)) = w0 at *
  generalize hlB : W.heap.size = B at *
  have HF := Lib.hid (HF0.out.grew g0)
  have y0 := hB.cell 0
  have y1 := hB.cell 1
  have y2 := hB.cell 2
  go_wp2_with fail
  refine (hP src dst hsr hdr HFX.out HF.out).mono ?_
  rintro e w1 ⟨ua, rfl, Ha, g1⟩
  rw [HE.out]
  rw [HP.out] at Ha
  obtain ⟨pa, ka, rfl, _, _⟩ := Ha.shape
  rw [HPL.out] at Ha ⊢
  replace HF := Lib.hid (HF.out.grew g1)
  replace hB := hB.grew g1
  replace Ha := Lib.hid Ha
  have G1 := g0.trans g1
  clear g1
  clear y0 y1 y2
  go_wp2_with fail
  refine (hG dst src hdr hsr (sn.grew G1) HXL.out Ha.out).mono ?_
  rintro e w2 ⟨uv, rfl, Hv, g2⟩
  rw [HG1.out]
  have Ev := Hv.shape
  obtain ⟨vp1, vk1, rfl, _⟩ := Ev
  replace HF := Lib.hid (HF.out.grew g2)
  replace Ha := Lib.hid (Ha.out.grew g2)
  replace hB := hB.grew g2
  replace Hv := Lib.hid Hv
  have G2 := G1.trans g2
  clear g2
  go_upto_region 7 with fail
  have g3 : Grew w2 (w2.alloc (.cells #[.int .i64 (getU (putU f src dst) dst src).s, .int .i64 (getU (putU f src dst) dst src).d, .slice vp1 (getU (putU f src dst) dst src).x.length vk1] 24)) := (Grew.refl _).alloc _
  have hX11 : Blk (w2.alloc (.cells #[.int .i64 (getU (putU f src dst) dst src).s, .int .i64 (getU (putU f src dst) dst src).d, .slice vp1 (getU (putU f src dst) dst src).x.length vk1] 24)) w2.heap.size #[.int .i64 (getU (putU f src dst) dst src).s, .int .i64 (getU (putU f src dst) dst src).d, .slice vp1 (getU (putU f src dst) dst src).x.length vk1] 24 := Blk.new _ _ _ _ rfl
  replace HF := Lib.hid (HF.out.grew g3)
  replace Ha := Lib.hid (Ha.out.grew g3)
  replace Hv := Lib.hid (Hv.out.grew g3)
  replace hB := hB.grew g3
  have G3 := G2.trans g3
  clear g3
  generalize (w2.alloc (.cells #[.int .i64 (getU (putU f src dst) dst src).s, .int .i64 (getU (putU f src dst) dst src).d, .slice vp1 (getU (putU f src dst) dst src).x.length vk1] 24)) = w3 at *
  generalize w2.heap.size = X11 at *
  have ge : Grew w3 (w3.alloc (.cells #[] 5)) := (Grew.refl w3).alloc _
  have HEE := Lib.hid (Row.lit w3 w3.heap.size (Nat.le_refl _) #[] [] rfl (by unfold maxLen; simp) w3.heap.size rfl 0 rfl)
  have HBE := Lib.hid (Ha.out.grew ge)
  go_upto_region 8 with (refine wpList_append_b (W := w3) rfl (.tmp 45) (.tmp 46) rfl ge HEE.out HBE.out (by rfl) (by rfl) HL1.out ?_; intro v13 w13 R13 g13 y13; clear y13)
  have hB13 := hB.grew g13
  have G13 := G3.trans g13
  replace R13 : Hid (Row w13 w3.heap.size v13 (putU f src dst)) := R13
  obtain ⟨gc, cap, e13⟩ : ∃ gc cap, v13 = .slice (some ⟨gc, 0, none⟩) (putU f src dst).length cap := by
    rcases R13.out.2 with ⟨_, h0⟩ | ⟨gc, cap, _, e, _⟩
    · have h00 := h0; have h01 := HLN.out; rw [HPL.out] at h00; omega
    · exact ⟨gc, cap, e⟩
  subst e13
  rw [HPL.out] at R13 ⊢
  obtain ⟨k, hk, hkl⟩ := turned_at bit f.x.length (by omega) (by omega)
  have HK := Lib.hid hk
  have ek := HK.out
  have dl : ((L : Int) != 8 + (f.x.length : Int)) = false := by have := HLN.out; have := HNX.out; simp; omega
  clear hk
  obtain ⟨y, hy⟩ : ∃ y, y = f.x.getD (k / 8) 0 := ⟨_, rfl⟩
  have hyb : 0 ≤ y ∧ y < 256 := by rw [hy]; exact HXK.out.getD _
  have hcel : w13.cell? ⟨gc, 8 + k / 8, none⟩ = some (.int .u8 y) := by
    rw [hy, ← putU_data HOK.out src dst]
    exact R13.out.cellAt (8 + k / 8) (by have := HPL.out; have := HLN.out; have := HNX.out; omega)
  have hfr := R13.out.freeAt (8 + k / 8)
  have HY := Lib.hid hy
  have HYB := Lib.hid hyb
  clear hy
  have kb : 0 ≤ 8 + (k : Int) / 8 ∧ 8 + (k : Int) / 8 < (L : Int) := by have := HLN.out; have := HNX.out; omega
  have HKL := Lib.hid hkl
  have kb2 : 8 + (k : Int) / 8 < (L : Int) := kb.2
  have kb3 : 8 + k / 8 < L := by omega
  have q0 := hB13.cell 0
  have q1 := hB13.cell 1
  have q2 := hB13.cell 2
  go_upto_region 12 with fail
  obtain ⟨t0, t1, t2, t3, t4⟩ := bit_turned_int HYB.out k
  generalize (bits .xor .u8 y (2 ^ (k % 8) % 256)) = v at *
  have hr := R13.out.setCell (8 + k / 8) v
  have g14 := (Only.setCell w13 gc (8 + k / 8) (.int .u8 v)).grew g13 R13.out.size.2.1
  have hok14 : AreBytes ((putU f src dst).set (8 + k / 8) v) := AreBytes.setAt Ha.out.ok (8 + k / 8) (by omega)
  generalize (w13.setCell ⟨gc, 8 + k / 8, none⟩ (.int .u8 v)) = w14 at *
  have HR14 := Lib.hid (hr.buf hok14)
  have HL14 := Lib.hid (show ((putU f src dst).set (8 + k / 8) v).length ≤ 140737488355328 by rw [List.length_set]; exact HXL.out)
  have HG2 := Lib.hid (getUE_bit HOK.out HXK.out src dst (k := k / 8) (by have := HKL.out; omega) (v := v) ⟨t0, t1⟩ (by rw [← HY.out]; exact t2) (by rw [← HY.out]; exact t3) (by rw [← HY.out]; exact t4))
  have G14 := G3.trans g14
  clear hr hok14 hcel hfr t0 t1 t2 t3 t4
  go_wp2_with fail
  refine (hG src dst hsr hdr (sn.grew G14) HL14.out HR14.out).mono ?_
  rintro e w15 ⟨uw, rfl, hw, g15⟩
  rw [HG2.out]
  obtain ⟨wp1, wk1, rfl, _⟩ := hw.shape
  go_upto_region 13 with fail
  have g16 : Grew w15 (w15.alloc (.cells #[.int .i64 (getU ((putU f src dst).set (8 + k / 8) v) src dst).s, .int .i64 (getU ((putU f src dst).set (8 + k / 8) v) src dst).d, .slice wp1 (getU ((putU f src dst).set (8 + k / 8) v) src dst).x.length wk1] 24)) := (Grew.refl _).alloc _
  generalize (w15.alloc (.cells #[.int .i64 (getU ((putU f src dst).set (8 + k / 8) v) src dst).s, .int .i64 (getU ((putU f src dst).set (8 + k / 8) v) src dst).d, .slice wp1 (getU ((putU f src dst).set (8 + k / 8) v) src dst).x.length wk1] 24)) = w16 at *
  go_wp2_with fail
  refine (hD ((G14.trans g15).trans g16) (sn.grew ((G14.trans g15).trans g16))).mono ?_
  rintro e wh ⟨rfl, gh⟩
  go_wp2_with fail
  go_ret
  exact ⟨rfl, gh⟩
theorem walk0 (hP : PutC) (hG : GetC) (hD : HeadC) (v : Value) (f : UD) (src : Int) (hsr : 0 ≤ src ∧ src < 4294967296) (dst : Int) (hdr : 0 ≤ dst ∧ dst < 4294967296) (bit : Int) (hb0 : -9223372036854775808 ≤ bit ∧ bit ≤ 9223372036854775807) {W : World} (sn : SenW W) (hF : Ud W v f) (_ : f.x.length ≤ 140737488355328) :
    Calls Tryd.prog 5 #[v, .int .u32 src, .int .u32 dst, .int .i64 bit] W fun e w' => e = .returned (.bool true) ∧ Below W.heap.size W w' := by
  have hF' := hF
  obtain ⟨p1, k1, rfl, _⟩ := hF'.shape
  by_cases h1 : (3000 : Int) < (f.x.length : Nat)
  · exact walk_far hD src dst bit sn (.inl h1)
  · by_cases h2 : ((f.x.length : Nat) : Int) = 0
    · exact walk_far hD src dst bit sn (.inr ⟨h1, h2⟩)
    · cases hok : okU f
      · exact walk_no hP hD src dst hsr hdr bit sn h1 h2 hok hF
      · exact walk_yes hP hG hD src dst hsr hdr bit hb0 sn h1 h2 hok hF
theorem walk (v : Value) (f : UD) (src : Int) (hsr : 0 ≤ src ∧ src < 4294967296) (dst : Int) (hdr : 0 ≤ dst ∧ dst < 4294967296) (bit : Int) (hb0 : -9223372036854775808 ≤ bit ∧ bit ≤ 9223372036854775807) {W : World} (sn : SenW W) (hF : Ud W v f) (hl : f.x.length ≤ 140737488355328)  :
    Calls Tryd.prog 5 #[v, .int .u32 src, .int .u32 dst, .int .i64 bit] W fun e w' => e = .returned (.bool true) ∧ Below W.heap.size W w' :=
  walk0 put18_c get18_c heads_c v f src hsr dst hdr bit hb0 sn hF hl
set_option maxRecDepth 100000 in
theorem lifted (os : Os) (started : os.Started) (H : Type) (enc : TypeId × Value → H) :
    ReturnsInHanded {} Tryd.checked os 5 .any (fun w args => (Rows.udpTurnedSpec.pre enc Tryd.prog Tryd.f5 [] false w args ∧ laidMetH Tryd.prog laid2 w) ∧ sizedMet enc Tryd.prog Tryd.f5 (OpenSpec.ofChange Rows.udpTurnedSpec) false w args) (Rows.udpTurnedSpec.post enc Tryd.prog Tryd.f5 false true false false) := by
  refine returnsInHanded_of_change_and (C := Tryd.checked) (X := fun w _ => laidMetH Tryd.prog laid2 w) (fun _ _ _ hh h => h.of_heap hh) own started (by kernel_rfl) Tryd.func5
    (ChangeSpec.witness_shaped (enc := enc) (C := Tryd.checked) (os := os) (X := fun w _ => laidMetH Tryd.prog laid2 w) false (World.doorLaid Tryd.prog 400 os) #[.agg #[.int .i64 0, .int .i64 0, .slice none 0 0], .int .u32 0, .int .u32 0, .int .i64 0] 8 rfl (World.shaped_of_RefB (by kernel_rfl) (by kernel_rfl)) (by kernel_rfl) (by kernel_rfl) (by kernel_rfl) (door_met os _)) ?_
  intro W base args ds gs before hval0 hW _ hz0 hL _
  obtain ⟨a0, a1, sn⟩ := sen_of_laid hL
  have hval : ∀ (j : Nat) t v, Tryd.f5.params[j]? = some t → args[j]? = some v → Value.okWide Tryd.prog W .any base t v := hval0
  have hW' := hW
  obtain ⟨p, q, hA0, hV, rfl, hfz, hnd⟩ := hW
  have hA : DataW.TrodAll enc Tryd.prog W 0 (fun _ => true) true Tryd.f5.params.toList args.toList ds p := hA0
  rw [Tryd.params5] at hA hval
  obtain ⟨v0, vs0, d0, ds0, p0, q0, hargs, rfl, rfl, h0, r'0⟩ := trodAll_cons hA
  obtain ⟨v1, vs1, d1, ds1, p1, q1, rfl, rfl, rfl, h1, r'1⟩ := trodAll_cons r'0
  obtain ⟨v2, vs2, d2, ds2, p2, q2, rfl, rfl, rfl, h2, r'2⟩ := trodAll_cons r'1
  obtain ⟨v3, vs3, d3, ds3, p3, q3, rfl, rfl, rfl, h3, r'3⟩ := trodAll_cons r'2
  obtain ⟨rfl, rfl, rfl⟩ := trodAll_nil r'3
  obtain rfl : args = #[v0, v1, v2, v3] := by cases args; simp_all
  obtain ⟨f0, k0, z0⟩ := open_udp (hval 0 24 v0 rfl rfl) h0
  have fits0 := z0 (fun m hm => by simpa using List.all_eq_true.1 hz0 _ (DataW.weights_mem_each (j := 0) (t := 24) rfl rfl m hm))
  obtain ⟨a1, rfl, rfl, rfl, w1⟩ := open_int Tryd.underlying25 (hval 1 25 v1 rfl rfl) h1
  obtain ⟨a2, rfl, rfl, rfl, w2⟩ := open_int Tryd.underlying25 (hval 2 25 v2 rfl rfl) h2
  obtain ⟨a3, rfl, rfl, rfl, w3⟩ := open_int Tryd.underlying3 (hval 3 3 v3 rfl rfl) h3
  refine (walk v0 f0 a1 (wf_u32 w1) a2 (wf_u32 w2) a3 (wf_i64 w3) sn k0 fits0).mono fun e W' ⟨he, hb⟩ => ?_
  subst he
  exact ⟨_, rfl, law_post hW' rfl rfl laid (by kernel_rfl) rfl Tryd.underlying4 hb⟩

theorem over : Rows.udpTurnedRow.holds Tryd.pinned (OpenSpec.ofChange Rows.udpTurnedSpec) :=
  OpenClaim.holds_of_wide 5 Tryd.f5 rfl rfl rfl rfl rfl rfl rfl ⟨rfl, rfl, rfl, rfl, rfl⟩ rfl rfl rfl rfl rfl (by kernel_rfl) Tryd.func5 (by kernel_rfl)
    (of_decide_eq_true (by kernel_rfl)) (by unfold Func.isWrapper; first | (rw [if_pos (by decide +kernel)]; kernel_rfl) | (rw [if_neg (by decide +kernel)]; exact ⟨rfl, rfl⟩))
    (fun os started H enc _ => lifted os started H enc)

theorem proved : Rows.UdpTurnedCardSaid :=
  Claim7.holds_tied_plain_at .later [] Rows.udpTurnedCard.laidKinds true Rows.udpTurnedCard.stood.harness Rows.udpTurnedCard.stood.looks
    over (fun _ h => by cases h) (by kernel_rfl) (fun _ h => by cases h) udpTurned_row_tie rfl ⟨rfl, rfl⟩ (by kernel_rfl) rfl
    (fun f fn hf hfn => by
      obtain rfl : f = 5 := Option.some.inj ((show Tryd.prog.funcNamed "drawbridge/drawbridgelaw18.UdpTurned" = some 5 by kernel_rfl).symm.trans hf) |>.symm
      obtain rfl : fn = Tryd.f5 := (Option.some.inj (Tryd.func5.symm.trans hfn)).symm
      exact ⟨by kernel_rfl, fun j t ht => by
        have hall : (Tryd.f5.params.toList.all fun u => !Tryd.prog.wantsStandIn u) = true := by kernel_rfl
        have hm : t ∈ Tryd.f5.params.toList := by simpa using Array.mem_of_getElem? ht
        exact (show Tryd.prog.wantsStandIn t = false by simpa using List.all_eq_true.1 hall t hm)⟩)
    (by kernel_rfl)
#print axioms proved
end Go.Proofs.YtcaafinjphionaaDoor.udpTurned
