/-
  The statement DhcpAgain: that what is read may be written, and is read again as it was. For every bytes. Conditions: none but those of the statement's row.
-/
import Derived.Test.YtnmffkmpkgmkpaaDhH
import Derived.Test.YtnmffkmpkgmkpaaDhW
import Derived.Test.YtnmffkmpkgmkpaaDhQ
import Derived.Test.YtnmffkmpkgmkpaaLaw
set_option maxRecDepth 4000
set_option linter.unusedVariables false
set_option linter.unusedSimpArgs false
namespace Go.Proofs.Ytnmffkmpkgmkpaa.dhcpAgain
open Go.ChangeShapes Go.WideShapes Go.ChangeAt Go.RowKit

theorem walk_far (hD : HeadC) (a : Option Addr) (n c : Nat) {W : World} (h1 : (3000 : Int) < (n : Nat)) :
    Calls Try.prog 3 #[.slice a n c] W fun e w' => e = .returned (.bool true) ∧ Below W.heap.size W w' := by
  go_enter Try.func3, Try.ntmps3
  go_wp2_with fail
  refine (hD (Grew.refl _)).mono ?_
  rintro e wh ⟨rfl, gh⟩
  go_wp2_with fail
  go_ret
  exact ⟨rfl, gh⟩
set_option maxHeartbeats 2000000 in
theorem walk_no (hP : PutC) (hG : GetC) (hD : HeadC) (a : Option Addr) (n c : Nat) (xs : List Int) {W : World} (h1 : ¬ ((3000 : Int) < (n : Nat))) (he : getDHE xs ≠ 0) (hb : Buf W (.slice a n c) xs) :
    Calls Try.prog 3 #[.slice a n c] W fun e w' => e = .returned (.bool true) ∧ Below W.heap.size W w' := by
  have HXL := Lib.hid (show xs.length ≤ 140737488355328 by have := hb.lenEq.1; omega)
  have HX := Lib.hid hb
  have HG := Lib.hid (show getDH xs = zDH by unfold getDH; rw [if_neg he])
  have HN := Lib.hid (show (getDHE xs != 0) = true by simpa using he)
  clear hb he
  go_enter Try.func3, Try.ntmps3
  go_wp2_with fail
  refine (hG HXL.out HX.out).mono ?_
  rintro e w1 ⟨uv, rfl, Hv, g1⟩
  rw [HG.out] at Hv
  have Ev := Hv.shape
  obtain ⟨vp1, vk1, rfl, _⟩ := Ev
  replace HX := Lib.hid (HX.out.grew g1)
  replace Hv := Lib.hid Hv
  have G1 := (Grew.refl W).trans g1
  clear g1
  go_upto_region 4 with fail
  have g2 : Grew w1 (w1.alloc (.cells #[.int .i64 zDH.op, .int .u32 zDH.xid, .int .u32 zDH.ci, .int .u32 zDH.yi, .slice vp1 zDH.x.length vk1, .int .i64 zDH.ty, .int .u32 zDH.wa, .int .u32 zDH.se, .int .u32 zDH.le, .int .u32 zDH.ma, .int .u32 zDH.ro, .int .u32 zDH.dn] 26)) := (Grew.refl _).alloc _
  have hX1 : Blk (w1.alloc (.cells #[.int .i64 zDH.op, .int .u32 zDH.xid, .int .u32 zDH.ci, .int .u32 zDH.yi, .slice vp1 zDH.x.length vk1, .int .i64 zDH.ty, .int .u32 zDH.wa, .int .u32 zDH.se, .int .u32 zDH.le, .int .u32 zDH.ma, .int .u32 zDH.ro, .int .u32 zDH.dn] 26)) w1.heap.size #[.int .i64 zDH.op, .int .u32 zDH.xid, .int .u32 zDH.ci, .int .u32 zDH.yi, .slice vp1 zDH.x.length vk1, .int .i64 zDH.ty, .int .u32 zDH.wa, .int .u32 zDH.se, .int .u32 zDH.le, .int .u32 zDH.ma, .int .u32 zDH.ro, .int .u32 zDH.dn] 26 := Blk.new _ _ _ _ rfl
  replace HX := Lib.hid (HX.out.grew g2)
  replace Hv := Lib.hid (Hv.out.grew g2)
  have G2 := G1.trans g2
  clear g2
  generalize (w1.alloc (.cells #[.int .i64 zDH.op, .int .u32 zDH.xid, .int .u32 zDH.ci, .int .u32 zDH.yi, .slice vp1 zDH.x.length vk1, .int .i64 zDH.ty, .int .u32 zDH.wa, .int .u32 zDH.se, .int .u32 zDH.le, .int .u32 zDH.ma, .int .u32 zDH.ro, .int .u32 zDH.dn] 26)) = w2 at *
  generalize w1.heap.size = X1 at *
  obtain ⟨v1v, v2v, evv, hvv⟩ := Hv.out.shape
  simp only [dhV, Value.agg.injEq, Array.mk.injEq, List.cons.injEq, Value.slice.injEq, and_true, true_and] at evv
  obtain ⟨rfl, rfl⟩ := evv
  have HV1 := Lib.hid hvv
  clear hvv
  have ewn := HN.out
  have y0 := hX1.cell 0
  have y1 := hX1.cell 1
  have y2 := hX1.cell 2
  have y3 := hX1.cell 3
  have y4 := hX1.cell 4
  have y5 := hX1.cell 5
  have y6 := hX1.cell 6
  have y7 := hX1.cell 7
  have y8 := hX1.cell 8
  have y9 := hX1.cell 9
  have y10 := hX1.cell 10
  have y11 := hX1.cell 11
  go_wp2_with fail
  refine (same20_c (f := zDH) HV1.out (Buf.nil _)).mono ?_
  rintro e x1 ⟨rfl, k1⟩
  go_wp2_with fail
  refine (hD (G2.trans k1)).mono ?_
  rintro e wh ⟨rfl, gh⟩
  go_wp2_with fail
  go_ret
  exact ⟨rfl, gh⟩
set_option maxHeartbeats 4000000 in
theorem walk_yes (hP : PutC) (hG : GetC) (hD : HeadC) (a : Option Addr) (n c : Nat) (xs : List Int) {W : World} (h1 : ¬ ((3000 : Int) < (n : Nat))) (he : getDHE xs = 0) (hb : Buf W (.slice a n c) xs) :
    Calls Try.prog 3 #[.slice a n c] W fun e w' => e = .returned (.bool true) ∧ Below W.heap.size W w' := by
  have HXL := Lib.hid (show xs.length ≤ 140737488355328 by have := hb.lenEq.1; omega)
  have HX := Lib.hid hb
  have HGE := Lib.hid he
  have HGD := Lib.hid (ok_got he).2
  have hok := (ok_got he).1
  have HE := Lib.hid (show putDHE (dhOf xs) = 0 by unfold putDHE; rw [hok]; rfl)
  have HPB := Lib.hid (show putDHB (dhOf xs) = putDH (dhOf xs) by unfold putDHB; rw [hok]; rfl)
  have HFX := Lib.hid (show (dhOf xs).x.length ≤ 140737488355328 by have := (okDH_spec hok).2.1; omega)
  have HPL := Lib.hid (show (putDH (dhOf xs)).length ≤ 140737488355328 by have := putDH_len hok; omega)
  have HGP := Lib.hid (fun (w : World) (v : Value) (hv : Dh w v (dhOf xs)) => get_put20 hok hv [])
  clear hb he hok
  go_enter Try.func3, Try.ntmps3
  go_wp2_with fail
  refine (hG HXL.out HX.out).mono ?_
  rintro e w1 ⟨uv, rfl, Hv, g1⟩
  rw [HGE.out]
  rw [HGD.out] at Hv
  have hgp := HGP.out _ _ Hv
  rw [List.append_nil] at hgp
  have HP1 := Lib.hid hgp.1
  have HP2 := Lib.hid hgp.2
  clear hgp HGP HGD HGE
  generalize dhOf xs = D at *
  have Ev := Hv.shape
  obtain ⟨vp1, vk1, rfl, _⟩ := Ev
  replace HX := Lib.hid (HX.out.grew g1)
  replace Hv := Lib.hid Hv
  have G1 := (Grew.refl W).trans g1
  clear g1
  go_upto_region 4 with fail
  have g2 : Grew w1 (w1.alloc (.cells #[.int .i64 D.op, .int .u32 D.xid, .int .u32 D.ci, .int .u32 D.yi, .slice vp1 D.x.length vk1, .int .i64 D.ty, .int .u32 D.wa, .int .u32 D.se, .int .u32 D.le, .int .u32 D.ma, .int .u32 D.ro, .int .u32 D.dn] 26)) := (Grew.refl _).alloc _
  have hX1 : Blk (w1.alloc (.cells #[.int .i64 D.op, .int .u32 D.xid, .int .u32 D.ci, .int .u32 D.yi, .slice vp1 D.x.length vk1, .int .i64 D.ty, .int .u32 D.wa, .int .u32 D.se, .int .u32 D.le, .int .u32 D.ma, .int .u32 D.ro, .int .u32 D.dn] 26)) w1.heap.size #[.int .i64 D.op, .int .u32 D.xid, .int .u32 D.ci, .int .u32 D.yi, .slice vp1 D.x.length vk1, .int .i64 D.ty, .int .u32 D.wa, .int .u32 D.se, .int .u32 D.le, .int .u32 D.ma, .int .u32 D.ro, .int .u32 D.dn] 26 := Blk.new _ _ _ _ rfl
  replace HX := Lib.hid (HX.out.grew g2)
  replace Hv := Lib.hid (Hv.out.grew g2)
  have G2 := G1.trans g2
  clear g2
  generalize (w1.alloc (.cells #[.int .i64 D.op, .int .u32 D.xid, .int .u32 D.ci, .int .u32 D.yi, .slice vp1 D.x.length vk1, .int .i64 D.ty, .int .u32 D.wa, .int .u32 D.se, .int .u32 D.le, .int .u32 D.ma, .int .u32 D.ro, .int .u32 D.dn] 26)) = w2 at *
  generalize w1.heap.size = X1 at *
  have y0 := hX1.cell 0
  have y1 := hX1.cell 1
  have y2 := hX1.cell 2
  have y3 := hX1.cell 3
  have y4 := hX1.cell 4
  have y5 := hX1.cell 5
  have y6 := hX1.cell 6
  have y7 := hX1.cell 7
  have y8 := hX1.cell 8
  have y9 := hX1.cell 9
  have y10 := hX1.cell 10
  have y11 := hX1.cell 11
  go_wp2_with fail
  refine (hP HFX.out Hv.out).mono ?_
  rintro e w3 ⟨ua, rfl, Ha, g3⟩
  rw [HE.out]
  rw [HPB.out] at Ha
  obtain ⟨pa, ka, rfl, _, _⟩ := Ha.shape
  replace HX := Lib.hid (HX.out.grew g3)
  replace Hv := Lib.hid (Hv.out.grew g3)
  replace hX1 := hX1.grew g3
  replace Ha := Lib.hid Ha
  have G3 := G2.trans g3
  clear g3
  clear y0 y1 y2 y3 y4 y5 y6 y7 y8 y9 y10 y11
  go_wp2_with fail
  refine (hG HPL.out Ha.out).mono ?_
  rintro e w4 ⟨ut, rfl, Ht, g4⟩
  rw [HP1.out]
  rw [HP2.out] at Ht
  have Et := Ht.shape
  obtain ⟨tp1, tk1, rfl, _⟩ := Et
  replace HX := Lib.hid (HX.out.grew g4)
  replace Hv := Lib.hid (Hv.out.grew g4)
  replace Ha := Lib.hid (Ha.out.grew g4)
  replace hX1 := hX1.grew g4
  replace Ht := Lib.hid Ht
  have G4 := G3.trans g4
  clear g4
  go_upto_region 8 with fail
  have g5 : Grew w4 (w4.alloc (.cells #[.int .i64 D.op, .int .u32 D.xid, .int .u32 D.ci, .int .u32 D.yi, .slice tp1 D.x.length tk1, .int .i64 D.ty, .int .u32 D.wa, .int .u32 D.se, .int .u32 D.le, .int .u32 D.ma, .int .u32 D.ro, .int .u32 D.dn] 26)) := (Grew.refl _).alloc _
  have hX5 : Blk (w4.alloc (.cells #[.int .i64 D.op, .int .u32 D.xid, .int .u32 D.ci, .int .u32 D.yi, .slice tp1 D.x.length tk1, .int .i64 D.ty, .int .u32 D.wa, .int .u32 D.se, .int .u32 D.le, .int .u32 D.ma, .int .u32 D.ro, .int .u32 D.dn] 26)) w4.heap.size #[.int .i64 D.op, .int .u32 D.xid, .int .u32 D.ci, .int .u32 D.yi, .slice tp1 D.x.length tk1, .int .i64 D.ty, .int .u32 D.wa, .int .u32 D.se, .int .u32 D.le, .int .u32 D.ma, .int .u32 D.ro, .int .u32 D.dn] 26 := Blk.new _ _ _ _ rfl
  replace HX := Lib.hid (HX.out.grew g5)
  replace Hv := Lib.hid (Hv.out.grew g5)
  replace Ha := Lib.hid (Ha.out.grew g5)
  replace Ht := Lib.hid (Ht.out.grew g5)
  replace hX1 := hX1.grew g5
  have G5 := G4.trans g5
  clear g5
  generalize (w4.alloc (.cells #[.int .i64 D.op, .int .u32 D.xid, .int .u32 D.ci, .int .u32 D.yi, .slice tp1 D.x.length tk1, .int .i64 D.ty, .int .u32 D.wa, .int .u32 D.se, .int .u32 D.le, .int .u32 D.ma, .int .u32 D.ro, .int .u32 D.dn] 26)) = w5 at *
  generalize w4.heap.size = X5 at *
  obtain ⟨v1v, v2v, evv, hvv⟩ := Hv.out.shape
  simp only [dhV, Value.agg.injEq, Array.mk.injEq, List.cons.injEq, Value.slice.injEq, and_true, true_and] at evv
  obtain ⟨rfl, rfl⟩ := evv
  have HV1 := Lib.hid hvv
  clear hvv
  obtain ⟨v1t, v2t, evt, hvt⟩ := Ht.out.shape
  simp only [dhV, Value.agg.injEq, Array.mk.injEq, List.cons.injEq, Value.slice.injEq, and_true, true_and] at evt
  obtain ⟨rfl, rfl⟩ := evt
  have HW1 := Lib.hid hvt
  clear hvt
  clear h1
  have y0 := hX1.cell 0
  have y1 := hX1.cell 1
  have y2 := hX1.cell 2
  have y3 := hX1.cell 3
  have y4 := hX1.cell 4
  have y5 := hX1.cell 5
  have y6 := hX1.cell 6
  have y7 := hX1.cell 7
  have y8 := hX1.cell 8
  have y9 := hX1.cell 9
  have y10 := hX1.cell 10
  have y11 := hX1.cell 11
  have z0 := hX5.cell 0
  have z1 := hX5.cell 1
  have z2 := hX5.cell 2
  have z3 := hX5.cell 3
  have z4 := hX5.cell 4
  have z5 := hX5.cell 5
  have z6 := hX5.cell 6
  have z7 := hX5.cell 7
  have z8 := hX5.cell 8
  have z9 := hX5.cell 9
  have z10 := hX5.cell 10
  have z11 := hX5.cell 11
  go_wp2_with fail
  refine (same20_c (f := D) HW1.out HV1.out).mono ?_
  rintro e x1 ⟨rfl, k1⟩
  go_wp2_with fail
  refine (hD (G5.trans k1)).mono ?_
  rintro e wh ⟨rfl, gh⟩
  go_wp2_with fail
  go_ret
  exact ⟨rfl, gh⟩
theorem walk0 (hP : PutC) (hG : GetC) (hD : HeadC) (u : Value) (xs : List Int) {W : World} (hb : Buf W u xs) :
    Calls Try.prog 3 #[u] W fun e w' => e = .returned (.bool true) ∧ Below W.heap.size W w' := by
  obtain ⟨a, c, rfl, _, _⟩ := hb.shape
  by_cases h1 : (3000 : Int) < (xs.length : Nat)
  · exact walk_far hD a _ c h1
  · by_cases he : getDHE xs = 0
    · exact walk_yes hP hG hD a _ c xs h1 he hb
    · exact walk_no hP hG hD a _ c xs h1 he hb
theorem walk (u : Value) (xs : List Int) (W : World) (hb : Buf W u xs) :
    Calls Try.prog 3 #[u] W fun e w' => e = .returned (.bool true) ∧ Below W.heap.size W w' :=
  walk0 put20_c get20_c heads_c u xs hb
set_option maxRecDepth 100000 in
theorem lifted (os : Os) (started : os.Started) (H : Type) (enc : TypeId × Value → H) :
    ReturnsInHanded {} Try.checked os 3 .any (Rows.dhcpAgainSpec.pre6 enc Try.prog Try.f3 Rows.dhcpAgainRow.domain false) (Rows.dhcpAgainSpec.post enc Try.prog Try.f3 false true false false) := by
  refine returnsInHanded_of_change (C := Try.checked) own started (by kernel_rfl) Try.func3
    (ChangeSpec.witness6 (enc := enc) (C := Try.checked) false ⟨#[], #[.slice none 0 0], []⟩ 8 (by kernel_rfl) (by kernel_rfl) (by kernel_rfl) (by kernel_rfl)) ?_
  intro W base args ds gs before hval0 hW _ _
  have hval : ∀ (j : Nat) t v, Try.f3.params[j]? = some t → args[j]? = some v → Value.okWide Try.prog W .any base t v := hval0
  have hW' := hW
  obtain ⟨p, q, hA0, hV, rfl, hfz, hnd⟩ := hW
  have hA : DataW.TrodAll enc Try.prog W 0 (fun _ => true) true Try.f3.params.toList args.toList ds p := hA0
  rw [Try.params3] at hA hval
  obtain ⟨v0, vs0, d0, ds0, p0, q0, hargs, rfl, rfl, h0, r'0⟩ := trodAll_cons hA
  obtain ⟨rfl, rfl, rfl⟩ := trodAll_nil r'0
  obtain rfl : args = #[v0] := by cases args; simp_all
  obtain ⟨x0, k0⟩ := open_buf Try.underlying22 Try.underlying5 (by kernel_rfl) (hval 0 22 v0 rfl rfl) h0
  refine (walk v0 x0 W k0).mono fun e W' ⟨he, hb⟩ => ?_
  subst he
  exact ⟨_, rfl, law_post hW' rfl rfl laid (by kernel_rfl) rfl Try.underlying4 hb⟩

theorem over : Rows.dhcpAgainRow.holds Try.pinned (OpenSpec.ofChange Rows.dhcpAgainSpec) :=
  OpenClaim.holds_of_wide 3 Try.f3 rfl rfl rfl rfl rfl rfl rfl ⟨rfl, rfl, rfl, rfl, rfl⟩ rfl rfl rfl rfl rfl (by kernel_rfl) Try.func3 (by kernel_rfl)
    (of_decide_eq_true (by kernel_rfl)) (by unfold Func.isWrapper; first | (rw [if_pos (by decide +kernel)]; kernel_rfl) | (rw [if_neg (by decide +kernel)]; exact ⟨rfl, rfl⟩))
    (fun os started H enc _ => lifted os started H enc)

theorem proved : Rows.DhcpAgainSaid := over
#print axioms proved
end Go.Proofs.Ytnmffkmpkgmkpaa.dhcpAgain
