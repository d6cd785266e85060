/-
  The statement DhcpBack: that a message is there and back, whatever stands behind its end. For every message and bytes. Conditions: none but those of the statement's row.
-/
import Derived.Test.YtnmffkmpkgmkpaaDhH
import Derived.Test.YtnmffkmpkgmkpaaDhW
import Derived.Test.YtnmffkmpkgmkpaaDhQ
import Derived.Test.YtnmffkmpkgmkpaaLaw
set_option maxRecDepth 4000
set_option linter.unusedVariables false
set_option linter.unusedSimpArgs false
namespace Go.Proofs.Ytnmffkmpkgmkpaa.dhcpBack
open Go.ChangeShapes Go.WideShapes Go.ChangeAt Go.RowKit

theorem walk_far (hD : HeadC) {f : DHR} {p1 : Option Addr} {k1 : Nat} (a : Option Addr) (n c : Nat) {W : World} (h1 : (1000 : Int) < (n : Nat)) :
    Calls Try.prog 5 #[.agg #[.int .i64 f.op, .int .u32 f.xid, .int .u32 f.ci, .int .u32 f.yi, .slice p1 f.x.length k1, .int .i64 f.ty, .int .u32 f.wa, .int .u32 f.se, .int .u32 f.le, .int .u32 f.ma, .int .u32 f.ro, .int .u32 f.dn], .slice a n c] W fun e w' => e = .returned (.bool true) ∧ Below W.heap.size W w' := by
  go_enter Try.func5, Try.ntmps5
  go_upto_region 1 with fail
  have hB : Blk (W.alloc (.cells #[.int .i64 f.op, .int .u32 f.xid, .int .u32 f.ci, .int .u32 f.yi, .slice p1 f.x.length k1, .int .i64 f.ty, .int .u32 f.wa, .int .u32 f.se, .int .u32 f.le, .int .u32 f.ma, .int .u32 f.ro, .int .u32 f.dn] 26)) W.heap.size #[.int .i64 f.op, .int .u32 f.xid, .int .u32 f.ci, .int .u32 f.yi, .slice p1 f.x.length k1, .int .i64 f.ty, .int .u32 f.wa, .int .u32 f.se, .int .u32 f.le, .int .u32 f.ma, .int .u32 f.ro, .int .u32 f.dn] 26 := Blk.new _ _ _ _ rfl
  have g0 : Grew W (W.alloc (.cells #[.int .i64 f.op, .int .u32 f.xid, .int .u32 f.ci, .int .u32 f.yi, .slice p1 f.x.length k1, .int .i64 f.ty, .int .u32 f.wa, .int .u32 f.se, .int .u32 f.le, .int .u32 f.ma, .int .u32 f.ro, .int .u32 f.dn] 26)) := (Grew.refl _).alloc _
  generalize (W.alloc (.cells #[.int .i64 f.op, .int .u32 f.xid, .int .u32 f.ci, .int .u32 f.yi, .slice p1 f.x.length k1, .int .i64 f.ty, .int .u32 f.wa, .int .u32 f.se, .int .u32 f.le, .int .u32 f.ma, .int .u32 f.ro, .int .u32 f.dn] 26)) = w0 at *
  generalize hlB : W.heap.size = B at *
  go_wp2_with fail
  refine (hD (g0)).mono ?_
  rintro e wh ⟨rfl, gh⟩
  go_wp2_with fail
  go_ret
  exact ⟨rfl, gh⟩
set_option maxHeartbeats 2000000 in
theorem walk_no (hP : PutC) (hD : HeadC) {f : DHR} {p1 : Option Addr} {k1 : Nat} (a : Option Addr) (n c : Nat) {W : World} (h1 : ¬ ((1000 : Int) < (n : Nat))) (hok : okDH f = false) (hF : Dh W (.agg #[.int .i64 f.op, .int .u32 f.xid, .int .u32 f.ci, .int .u32 f.yi, .slice p1 f.x.length k1, .int .i64 f.ty, .int .u32 f.wa, .int .u32 f.se, .int .u32 f.le, .int .u32 f.ma, .int .u32 f.ro, .int .u32 f.dn]) f) (hl : f.x.length ≤ 140737488355328) :
    Calls Try.prog 5 #[.agg #[.int .i64 f.op, .int .u32 f.xid, .int .u32 f.ci, .int .u32 f.yi, .slice p1 f.x.length k1, .int .i64 f.ty, .int .u32 f.wa, .int .u32 f.se, .int .u32 f.le, .int .u32 f.ma, .int .u32 f.ro, .int .u32 f.dn], .slice a n c] W fun e w' => e = .returned (.bool true) ∧ Below W.heap.size W w' := by
  have HFX := Lib.hid hl
  have HF0 := Lib.hid hF
  have HE := Lib.hid (show putDHE f = 2 by unfold putDHE; rw [hok]; rfl)
  have HPB := Lib.hid (show putDHB f = [] by unfold putDHB; rw [hok]; rfl)
  clear hF hl
  go_enter Try.func5, Try.ntmps5
  go_upto_region 1 with fail
  have hB : Blk (W.alloc (.cells #[.int .i64 f.op, .int .u32 f.xid, .int .u32 f.ci, .int .u32 f.yi, .slice p1 f.x.length k1, .int .i64 f.ty, .int .u32 f.wa, .int .u32 f.se, .int .u32 f.le, .int .u32 f.ma, .int .u32 f.ro, .int .u32 f.dn] 26)) W.heap.size #[.int .i64 f.op, .int .u32 f.xid, .int .u32 f.ci, .int .u32 f.yi, .slice p1 f.x.length k1, .int .i64 f.ty, .int .u32 f.wa, .int .u32 f.se, .int .u32 f.le, .int .u32 f.ma, .int .u32 f.ro, .int .u32 f.dn] 26 := Blk.new _ _ _ _ rfl
  have g0 : Grew W (W.alloc (.cells #[.int .i64 f.op, .int .u32 f.xid, .int .u32 f.ci, .int .u32 f.yi, .slice p1 f.x.length k1, .int .i64 f.ty, .int .u32 f.wa, .int .u32 f.se, .int .u32 f.le, .int .u32 f.ma, .int .u32 f.ro, .int .u32 f.dn] 26)) := (Grew.refl _).alloc _
  generalize (W.alloc (.cells #[.int .i64 f.op, .int .u32 f.xid, .int .u32 f.ci, .int .u32 f.yi, .slice p1 f.x.length k1, .int .i64 f.ty, .int .u32 f.wa, .int .u32 f.se, .int .u32 f.le, .int .u32 f.ma, .int .u32 f.ro, .int .u32 f.dn] 26)) = w0 at *
  generalize hlB : W.heap.size = B at *
  have HF := Lib.hid (HF0.out.grew g0)
  have y0 := hB.cell 0
  have y1 := hB.cell 1
  have y2 := hB.cell 2
  have y3 := hB.cell 3
  have y4 := hB.cell 4
  have y5 := hB.cell 5
  have y6 := hB.cell 6
  have y7 := hB.cell 7
  have y8 := hB.cell 8
  have y9 := hB.cell 9
  have y10 := hB.cell 10
  have y11 := hB.cell 11
  go_wp2_with fail
  refine (hP HFX.out HF.out).mono ?_
  rintro e w1 ⟨ua, rfl, Ha, g1⟩
  rw [HE.out]
  rw [HPB.out] at Ha
  obtain ⟨pa, ka, rfl, _, _⟩ := Ha.shape
  replace HF := Lib.hid (HF.out.grew g1)
  replace hB := hB.grew g1
  replace Ha := Lib.hid Ha
  have G1 := g0.trans g1
  clear g1
  clear y0 y1 y2 y3 y4 y5 y6 y7 y8 y9 y10 y11
  go_wp2_with fail
  refine (hD (G1)).mono ?_
  rintro e wh ⟨rfl, gh⟩
  go_wp2_with fail
  go_ret
  exact ⟨rfl, gh⟩
set_option maxHeartbeats 4000000 in
theorem walk_yes (hP : PutC) (hG : GetC) (hD : HeadC) {f : DHR} {p1 : Option Addr} {k1 : Nat} (a : Option Addr) (n c : Nat) (ms : List Int) {W : World} (h1 : ¬ ((1000 : Int) < (n : Nat))) (hok : okDH f = true) (hF : Dh W (.agg #[.int .i64 f.op, .int .u32 f.xid, .int .u32 f.ci, .int .u32 f.yi, .slice p1 f.x.length k1, .int .i64 f.ty, .int .u32 f.wa, .int .u32 f.se, .int .u32 f.le, .int .u32 f.ma, .int .u32 f.ro, .int .u32 f.dn]) f) (hl : f.x.length ≤ 140737488355328) (hb : Buf W (.slice a n c) ms) :
    Calls Try.prog 5 #[.agg #[.int .i64 f.op, .int .u32 f.xid, .int .u32 f.ci, .int .u32 f.yi, .slice p1 f.x.length k1, .int .i64 f.ty, .int .u32 f.wa, .int .u32 f.se, .int .u32 f.le, .int .u32 f.ma, .int .u32 f.ro, .int .u32 f.dn], .slice a n c] W fun e w' => e = .returned (.bool true) ∧ Below W.heap.size W w' := by
  have hk := okDH_spec hok
  have hpl := putDH_len hok
  obtain ⟨L, hL⟩ : ∃ L, L = (putDH f).length := ⟨_, rfl⟩
  have hL1 : 244 ≤ L := by omega
  have hL2 : L ≤ 280 := by omega
  have HE := Lib.hid (show putDHE f = 0 by unfold putDHE; rw [hok]; rfl)
  have HPB := Lib.hid (show putDHB f = putDH f by unfold putDHB; rw [hok]; rfl)
  have HPL := Lib.hid (show (putDH f).length = L from hL.symm)
  have HFX := Lib.hid hl
  have HF0 := Lib.hid hF
  have hgp := get_put20 hok hF ms
  have hn := hb.lenEq.1
  have HM0 := Lib.hid hb
  have HG1 := Lib.hid hgp.1
  have HG2 := Lib.hid hgp.2
  have HL1 := Lib.hid (show ([] : List Int).length + (putDH f).length ≤ 140737488355328 by rw [HPL.out]; simp; omega)
  have HL2 := Lib.hid (show ([] ++ putDH f).length + ms.length ≤ 140737488355328 by rw [List.nil_append, HPL.out]; omega)
  have HL3 := Lib.hid (show (putDH f ++ ms).length ≤ 140737488355328 by rw [List.length_append, HPL.out]; omega)
  have k244 : (244 : Int) ≤ (L : Nat) := by omega
  clear hgp hk hn hpl hL1 hL2 hL hF hb hl
  go_enter Try.func5, Try.ntmps5
  go_upto_region 1 with fail
  have hB : Blk (W.alloc (.cells #[.int .i64 f.op, .int .u32 f.xid, .int .u32 f.ci, .int .u32 f.yi, .slice p1 f.x.length k1, .int .i64 f.ty, .int .u32 f.wa, .int .u32 f.se, .int .u32 f.le, .int .u32 f.ma, .int .u32 f.ro, .int .u32 f.dn] 26)) W.heap.size #[.int .i64 f.op, .int .u32 f.xid, .int .u32 f.ci, .int .u32 f.yi, .slice p1 f.x.length k1, .int .i64 f.ty, .int .u32 f.wa, .int .u32 f.se, .int .u32 f.le, .int .u32 f.ma, .int .u32 f.ro, .int .u32 f.dn] 26 := Blk.new _ _ _ _ rfl
  have g0 : Grew W (W.alloc (.cells #[.int .i64 f.op, .int .u32 f.xid, .int .u32 f.ci, .int .u32 f.yi, .slice p1 f.x.length k1, .int .i64 f.ty, .int .u32 f.wa, .int .u32 f.se, .int .u32 f.le, .int .u32 f.ma, .int .u32 f.ro, .int .u32 f.dn] 26)) := (Grew.refl _).alloc _
  generalize (W.alloc (.cells #[.int .i64 f.op, .int .u32 f.xid, .int .u32 f.ci, .int .u32 f.yi, .slice p1 f.x.length k1, .int .i64 f.ty, .int .u32 f.wa, .int .u32 f.se, .int .u32 f.le, .int .u32 f.ma, .int .u32 f.ro, .int .u32 f.dn] 26)) = w0 at *
  generalize hlB : W.heap.size = B at *
  have HF := Lib.hid (HF0.out.grew g0)
  have HM := Lib.hid (HM0.out.grew g0)
  have y0 := hB.cell 0
  have y1 := hB.cell 1
  have y2 := hB.cell 2
  have y3 := hB.cell 3
  have y4 := hB.cell 4
  have y5 := hB.cell 5
  have y6 := hB.cell 6
  have y7 := hB.cell 7
  have y8 := hB.cell 8
  have y9 := hB.cell 9
  have y10 := hB.cell 10
  have y11 := hB.cell 11
  go_wp2_with fail
  refine (hP HFX.out HF.out).mono ?_
  rintro e w1 ⟨ua, rfl, Ha, g1⟩
  rw [HE.out]
  rw [HPB.out] at Ha
  obtain ⟨pa, ka, rfl, _, _⟩ := Ha.shape
  rw [HPL.out] at Ha ⊢
  replace HF := Lib.hid (HF.out.grew g1)
  replace HM := Lib.hid (HM.out.grew g1)
  replace hB := hB.grew g1
  replace Ha := Lib.hid Ha
  have G1 := g0.trans g1
  clear g1
  clear y0 y1 y2 y3 y4 y5 y6 y7 y8 y9 y10 y11
  go_upto_region 6 with fail
  have ge : Grew w1 (w1.alloc (.cells #[] 5)) := (Grew.refl w1).alloc _
  have HEE := Lib.hid (Row.lit w1 w1.heap.size (Nat.le_refl _) #[] [] rfl (by unfold maxLen; simp) w1.heap.size rfl 0 rfl)
  have HBE := Lib.hid (Ha.out.grew ge)
  go_wp2_with (first
    | (refine wpList_append_b (W := w1) rfl (.tmp 27) (.tmp 28) rfl ge HEE.out HBE.out (by rfl) (by rfl) HL1.out ?_; intro v9 w9 R9 g9 y9; clear y9; have HMB := Lib.hid (HM.out.grew g9))
    | (refine wpList_append_b (W := w1) rfl (.tmp 29) (.tmp 30) rfl g9 R9.out HMB.out (by rfl) (by rfl) HL2.out ?_; intro v10 w10 R10 g10 y10; clear y10; have hc10 : Buf w10 v10 (putDH f ++ ms) := R10.out.buf (Ha.out.ok.app HM.out.ok); have HC10 := Lib.hid hc10; clear hc10; replace HF := Lib.hid (HF.out.grew g10); replace Ha := Lib.hid (Ha.out.grew g10); replace hB := hB.grew g10; have G10 := G1.trans g10))
  refine (hG HL3.out HC10.out).mono ?_
  rintro e w11 ⟨uv, rfl, Hv, g11⟩
  rw [HG1.out]
  rw [HG2.out] at Hv
  have Ev := Hv.shape
  obtain ⟨vp1, vk1, rfl, _⟩ := Ev
  replace HF := Lib.hid (HF.out.grew g11)
  replace Ha := Lib.hid (Ha.out.grew g11)
  replace hB := hB.grew g11
  replace Hv := Lib.hid Hv
  have G11 := G10.trans g11
  clear g11
  go_upto_region 7 with fail
  have g12 : Grew w11 (w11.alloc (.cells #[.int .i64 f.op, .int .u32 f.xid, .int .u32 f.ci, .int .u32 f.yi, .slice vp1 f.x.length vk1, .int .i64 f.ty, .int .u32 f.wa, .int .u32 f.se, .int .u32 f.le, .int .u32 f.ma, .int .u32 f.ro, .int .u32 f.dn] 26)) := (Grew.refl _).alloc _
  have hX11 : Blk (w11.alloc (.cells #[.int .i64 f.op, .int .u32 f.xid, .int .u32 f.ci, .int .u32 f.yi, .slice vp1 f.x.length vk1, .int .i64 f.ty, .int .u32 f.wa, .int .u32 f.se, .int .u32 f.le, .int .u32 f.ma, .int .u32 f.ro, .int .u32 f.dn] 26)) w11.heap.size #[.int .i64 f.op, .int .u32 f.xid, .int .u32 f.ci, .int .u32 f.yi, .slice vp1 f.x.length vk1, .int .i64 f.ty, .int .u32 f.wa, .int .u32 f.se, .int .u32 f.le, .int .u32 f.ma, .int .u32 f.ro, .int .u32 f.dn] 26 := Blk.new _ _ _ _ rfl
  replace HF := Lib.hid (HF.out.grew g12)
  replace Ha := Lib.hid (Ha.out.grew g12)
  replace Hv := Lib.hid (Hv.out.grew g12)
  replace hB := hB.grew g12
  have G12 := G11.trans g12
  clear g12
  generalize (w11.alloc (.cells #[.int .i64 f.op, .int .u32 f.xid, .int .u32 f.ci, .int .u32 f.yi, .slice vp1 f.x.length vk1, .int .i64 f.ty, .int .u32 f.wa, .int .u32 f.se, .int .u32 f.le, .int .u32 f.ma, .int .u32 f.ro, .int .u32 f.dn] 26)) = w12 at *
  generalize w11.heap.size = X11 at *
  obtain ⟨v1f, v2f, evf, hvf⟩ := HF.out.shape
  simp only [dhV, Value.agg.injEq, Array.mk.injEq, List.cons.injEq, Value.slice.injEq, and_true, true_and] at evf
  obtain ⟨rfl, rfl⟩ := evf
  have HV1 := Lib.hid hvf
  clear hvf
  obtain ⟨v1v, v2v, evv, hvv⟩ := Hv.out.shape
  simp only [dhV, Value.agg.injEq, Array.mk.injEq, List.cons.injEq, Value.slice.injEq, and_true, true_and] at evv
  obtain ⟨rfl, rfl⟩ := evv
  have HW1 := Lib.hid hvv
  clear hvv
  clear h1
  have y0 := hB.cell 0
  have y1 := hB.cell 1
  have y2 := hB.cell 2
  have y3 := hB.cell 3
  have y4 := hB.cell 4
  have y5 := hB.cell 5
  have y6 := hB.cell 6
  have y7 := hB.cell 7
  have y8 := hB.cell 8
  have y9 := hB.cell 9
  have y10 := hB.cell 10
  have y11 := hB.cell 11
  have z0 := hX11.cell 0
  have z1 := hX11.cell 1
  have z2 := hX11.cell 2
  have z3 := hX11.cell 3
  have z4 := hX11.cell 4
  have z5 := hX11.cell 5
  have z6 := hX11.cell 6
  have z7 := hX11.cell 7
  have z8 := hX11.cell 8
  have z9 := hX11.cell 9
  have z10 := hX11.cell 10
  have z11 := hX11.cell 11
  go_wp2_with fail
  refine (same20_c (f := f) HW1.out HV1.out).mono ?_
  rintro e x1 ⟨rfl, k1⟩
  go_wp2_with fail
  refine (hD (G12.trans k1)).mono ?_
  rintro e wh ⟨rfl, gh⟩
  go_wp2_with fail
  go_ret
  exact ⟨rfl, gh⟩
theorem walk0 (hP : PutC) (hG : GetC) (hD : HeadC) (v : Value) (f : DHR) (u : Value) (xs : List Int) {W : World} (hF : Dh W v f) (hl : f.x.length ≤ 140737488355328) (hb : Buf W u xs) :
    Calls Try.prog 5 #[v, u] W fun e w' => e = .returned (.bool true) ∧ Below W.heap.size W w' := by
  have hF' := hF
  obtain ⟨p1, k1, rfl, _⟩ := hF'.shape
  obtain ⟨a, c, rfl, _, _⟩ := hb.shape
  by_cases h1 : (1000 : Int) < (xs.length : Nat)
  · exact walk_far hD a _ c h1
  · cases hok : okDH f
    · exact walk_no hP hD a _ c h1 hok hF hl
    · exact walk_yes hP hG hD a _ c xs h1 hok hF hl hb
theorem walk (v : Value) (f : DHR) (u : Value) (xs : List Int) (W : World) (hF : Dh W v f) (hl : f.x.length ≤ 140737488355328) (hb : Buf W u xs) :
    Calls Try.prog 5 #[v, u] W fun e w' => e = .returned (.bool true) ∧ Below W.heap.size W w' :=
  walk0 put20_c get20_c heads_c v f u xs hF hl hb
set_option maxRecDepth 100000 in
theorem lifted (os : Os) (started : os.Started) (H : Type) (enc : TypeId × Value → H) :
    ReturnsInHanded {} Try.checked os 5 .any (Rows.dhcpBackSpec.pre6 enc Try.prog Try.f5 Rows.dhcpBackRow.domain false) (Rows.dhcpBackSpec.post enc Try.prog Try.f5 false true false false) := by
  refine returnsInHanded_of_change_sized (C := Try.checked) own started (by kernel_rfl) Try.func5
    (ChangeSpec.witness6 (enc := enc) (C := Try.checked) false ⟨#[], #[.agg #[.int .i64 0, .int .u32 0, .int .u32 0, .int .u32 0, .slice none 0 0, .int .i64 0, .int .u32 0, .int .u32 0, .int .u32 0, .int .u32 0, .int .u32 0, .int .u32 0], .slice none 0 0], []⟩ 8 (by kernel_rfl) (by kernel_rfl) (by kernel_rfl) (by kernel_rfl)) ?_
  intro W base args ds gs before hval0 hW _ hz0 _
  have hval : ∀ (j : Nat) t v, Try.f5.params[j]? = some t → args[j]? = some v → Value.okWide Try.prog W .any base t v := hval0
  have hW' := hW
  obtain ⟨p, q, hA0, hV, rfl, hfz, hnd⟩ := hW
  have hA : DataW.TrodAll enc Try.prog W 0 (fun _ => true) true Try.f5.params.toList args.toList ds p := hA0
  rw [Try.params5] at hA hval
  obtain ⟨v0, vs0, d0, ds0, p0, q0, hargs, rfl, rfl, h0, r'0⟩ := trodAll_cons hA
  obtain ⟨v1, vs1, d1, ds1, p1, q1, rfl, rfl, rfl, h1, r'1⟩ := trodAll_cons r'0
  obtain ⟨rfl, rfl, rfl⟩ := trodAll_nil r'1
  obtain rfl : args = #[v0, v1] := by cases args; simp_all
  obtain ⟨f0, k0, z0⟩ := open_dhcp (hval 0 26 v0 rfl rfl) h0
  have fits0 := z0 (fun m hm => by simpa using List.all_eq_true.1 hz0 _ (DataW.weights_mem_each (j := 0) (t := 26) rfl rfl m hm))
  obtain ⟨x1, k1⟩ := open_buf Try.underlying22 Try.underlying5 (by kernel_rfl) (hval 1 22 v1 rfl rfl) h1
  refine (walk v0 f0 v1 x1 W k0 fits0 k1).mono fun e W' ⟨he, hb⟩ => ?_
  subst he
  exact ⟨_, rfl, law_post hW' rfl rfl laid (by kernel_rfl) rfl Try.underlying4 hb⟩

theorem over : Rows.dhcpBackRow.holds Try.pinned (OpenSpec.ofChange Rows.dhcpBackSpec) :=
  OpenClaim.holds_of_wide 5 Try.f5 rfl rfl rfl rfl rfl rfl rfl ⟨rfl, rfl, rfl, rfl, rfl⟩ rfl rfl rfl rfl rfl (by kernel_rfl) Try.func5 (by kernel_rfl)
    (of_decide_eq_true (by kernel_rfl)) (by unfold Func.isWrapper; first | (rw [if_pos (by decide +kernel)]; kernel_rfl) | (rw [if_neg (by decide +kernel)]; exact ⟨rfl, rfl⟩))
    (fun os started H enc _ => lifted os started H enc)

theorem proved : Rows.DhcpBackSaid := over
#print axioms proved
end Go.Proofs.Ytnmffkmpkgmkpaa.dhcpBack
