/-
  The statement DhcpTells: which bytes messages are, and which messages bytes, as the document's own answer says. For every message, right or not, and bytes. Conditions: none but those of the statement's row.
-/
import Derived.Test.YtnmffkmpkgmkpaaDhH
import Derived.Test.YtnmffkmpkgmkpaaDhW
import Derived.Test.YtnmffkmpkgmkpaaDhQ
import Derived.Test.YtnmffkmpkgmkpaaLaw
set_option maxRecDepth 4000
set_option linter.unusedVariables false
set_option linter.unusedSimpArgs false
namespace Go.Proofs.Ytnmffkmpkgmkpaa.dhcpTells
open Go.ChangeShapes Go.WideShapes Go.ChangeAt Go.RowKit

theorem walk_far (hD : HeadC) {f : DHR} {p1 : Option Addr} {k1 : Nat} (a : Option Addr) (n c : Nat) {W : World} (h1 : (3000 : Int) < (n : Nat)) :
    Calls Try.prog 4 #[.agg #[.int .i64 f.op, .int .u32 f.xid, .int .u32 f.ci, .int .u32 f.yi, .slice p1 f.x.length k1, .int .i64 f.ty, .int .u32 f.wa, .int .u32 f.se, .int .u32 f.le, .int .u32 f.ma, .int .u32 f.ro, .int .u32 f.dn], .slice a n c] W fun e w' => e = .returned (.bool true) ∧ Below W.heap.size W w' := by
  go_enter Try.func4, Try.ntmps4
  go_upto_region 1 with fail
  have hB : Blk (W.alloc (.cells #[.int .i64 f.op, .int .u32 f.xid, .int .u32 f.ci, .int .u32 f.yi, .slice p1 f.x.length k1, .int .i64 f.ty, .int .u32 f.wa, .int .u32 f.se, .int .u32 f.le, .int .u32 f.ma, .int .u32 f.ro, .int .u32 f.dn] 26)) W.heap.size #[.int .i64 f.op, .int .u32 f.xid, .int .u32 f.ci, .int .u32 f.yi, .slice p1 f.x.length k1, .int .i64 f.ty, .int .u32 f.wa, .int .u32 f.se, .int .u32 f.le, .int .u32 f.ma, .int .u32 f.ro, .int .u32 f.dn] 26 := Blk.new _ _ _ _ rfl
  have g0 : Grew W (W.alloc (.cells #[.int .i64 f.op, .int .u32 f.xid, .int .u32 f.ci, .int .u32 f.yi, .slice p1 f.x.length k1, .int .i64 f.ty, .int .u32 f.wa, .int .u32 f.se, .int .u32 f.le, .int .u32 f.ma, .int .u32 f.ro, .int .u32 f.dn] 26)) := (Grew.refl _).alloc _
  generalize (W.alloc (.cells #[.int .i64 f.op, .int .u32 f.xid, .int .u32 f.ci, .int .u32 f.yi, .slice p1 f.x.length k1, .int .i64 f.ty, .int .u32 f.wa, .int .u32 f.se, .int .u32 f.le, .int .u32 f.ma, .int .u32 f.ro, .int .u32 f.dn] 26)) = w0 at *
  generalize hlB : W.heap.size = B at *
  go_wp2_with fail
  refine (hD (g0)).mono ?_
  rintro e wh ⟨rfl, gh⟩
  go_wp2_with fail
  go_ret
  exact ⟨rfl, gh⟩
set_option maxHeartbeats 4000000 in
theorem walk_near (hP : PutC) (hG : GetC) (hD : HeadC) {f : DHR} {p1 : Option Addr} {k1 : Nat} (a : Option Addr) (n c : Nat) (xs : List Int) {W : World} (h1 : ¬ ((3000 : Int) < (n : Nat))) (hF : Dh W (.agg #[.int .i64 f.op, .int .u32 f.xid, .int .u32 f.ci, .int .u32 f.yi, .slice p1 f.x.length k1, .int .i64 f.ty, .int .u32 f.wa, .int .u32 f.se, .int .u32 f.le, .int .u32 f.ma, .int .u32 f.ro, .int .u32 f.dn]) f) (hl : f.x.length ≤ 140737488355328) (hb : Buf W (.slice a n c) xs) :
    Calls Try.prog 4 #[.agg #[.int .i64 f.op, .int .u32 f.xid, .int .u32 f.ci, .int .u32 f.yi, .slice p1 f.x.length k1, .int .i64 f.ty, .int .u32 f.wa, .int .u32 f.se, .int .u32 f.le, .int .u32 f.ma, .int .u32 f.ro, .int .u32 f.dn], .slice a n c] W fun e w' => e = .returned (.bool true) ∧ Below W.heap.size W w' := by
  have HFX := Lib.hid hl
  have HXL := Lib.hid (show xs.length ≤ 140737488355328 by have := hb.lenEq.1; omega)
  have HF0 := Lib.hid hF
  have HX0 := Lib.hid hb
  clear hF hb hl
  go_enter Try.func4, Try.ntmps4
  go_upto_region 1 with fail
  have hB : Blk (W.alloc (.cells #[.int .i64 f.op, .int .u32 f.xid, .int .u32 f.ci, .int .u32 f.yi, .slice p1 f.x.length k1, .int .i64 f.ty, .int .u32 f.wa, .int .u32 f.se, .int .u32 f.le, .int .u32 f.ma, .int .u32 f.ro, .int .u32 f.dn] 26)) W.heap.size #[.int .i64 f.op, .int .u32 f.xid, .int .u32 f.ci, .int .u32 f.yi, .slice p1 f.x.length k1, .int .i64 f.ty, .int .u32 f.wa, .int .u32 f.se, .int .u32 f.le, .int .u32 f.ma, .int .u32 f.ro, .int .u32 f.dn] 26 := Blk.new _ _ _ _ rfl
  have g0 : Grew W (W.alloc (.cells #[.int .i64 f.op, .int .u32 f.xid, .int .u32 f.ci, .int .u32 f.yi, .slice p1 f.x.length k1, .int .i64 f.ty, .int .u32 f.wa, .int .u32 f.se, .int .u32 f.le, .int .u32 f.ma, .int .u32 f.ro, .int .u32 f.dn] 26)) := (Grew.refl _).alloc _
  generalize (W.alloc (.cells #[.int .i64 f.op, .int .u32 f.xid, .int .u32 f.ci, .int .u32 f.yi, .slice p1 f.x.length k1, .int .i64 f.ty, .int .u32 f.wa, .int .u32 f.se, .int .u32 f.le, .int .u32 f.ma, .int .u32 f.ro, .int .u32 f.dn] 26)) = w0 at *
  generalize hlB : W.heap.size = B at *
  have HF := Lib.hid (HF0.out.grew g0)
  have HX := Lib.hid (HX0.out.grew g0)
  have y0 := hB.cell 0
  have y1 := hB.cell 1
  have y2 := hB.cell 2
  have y3 := hB.cell 3
  have y4 := hB.cell 4
  have y5 := hB.cell 5
  have y6 := hB.cell 6
  have y7 := hB.cell 7
  have y8 := hB.cell 8
  have y9 := hB.cell 9
  have y10 := hB.cell 10
  have y11 := hB.cell 11
  go_wp2_with fail
  refine (hP HFX.out HF.out).mono ?_
  rintro e w1 ⟨ua, rfl, Ha, g1⟩
  obtain ⟨pa, ka, rfl, _, _⟩ := Ha.shape
  replace HF := Lib.hid (HF.out.grew g1)
  replace HX := Lib.hid (HX.out.grew g1)
  replace hB := hB.grew g1
  replace Ha := Lib.hid Ha
  have G1 := g0.trans g1
  clear g1
  clear y0 y1 y2 y3 y4 y5 y6 y7 y8 y9 y10 y11
  have y0 := hB.cell 0
  have y1 := hB.cell 1
  have y2 := hB.cell 2
  have y3 := hB.cell 3
  have y4 := hB.cell 4
  have y5 := hB.cell 5
  have y6 := hB.cell 6
  have y7 := hB.cell 7
  have y8 := hB.cell 8
  have y9 := hB.cell 9
  have y10 := hB.cell 10
  have y11 := hB.cell 11
  go_wp2_with fail
  refine (refPut20_c HFX.out HF.out).mono ?_
  rintro e w2 ⟨ub, rfl, Hb, g2⟩
  obtain ⟨pb, kb, rfl, _, _⟩ := Hb.shape
  replace HF := Lib.hid (HF.out.grew g2)
  replace HX := Lib.hid (HX.out.grew g2)
  replace Ha := Lib.hid (Ha.out.grew g2)
  replace hB := hB.grew g2
  replace Hb := Lib.hid Hb
  have G2 := G1.trans g2
  clear g2
  clear y0 y1 y2 y3 y4 y5 y6 y7 y8 y9 y10 y11
  go_wp2_with fail
  refine (hG HXL.out HX.out).mono ?_
  rintro e w3 ⟨uv, rfl, Hv, g3⟩
  have Ev := Hv.shape
  obtain ⟨vp1, vk1, rfl, _⟩ := Ev
  replace HF := Lib.hid (HF.out.grew g3)
  replace HX := Lib.hid (HX.out.grew g3)
  replace Ha := Lib.hid (Ha.out.grew g3)
  replace Hb := Lib.hid (Hb.out.grew g3)
  replace hB := hB.grew g3
  replace Hv := Lib.hid Hv
  have G3 := G2.trans g3
  clear g3
  go_upto_region 6 with fail
  have g4 : Grew w3 (w3.alloc (.cells #[.int .i64 (getDH xs).op, .int .u32 (getDH xs).xid, .int .u32 (getDH xs).ci, .int .u32 (getDH xs).yi, .slice vp1 (getDH xs).x.length vk1, .int .i64 (getDH xs).ty, .int .u32 (getDH xs).wa, .int .u32 (getDH xs).se, .int .u32 (getDH xs).le, .int .u32 (getDH xs).ma, .int .u32 (getDH xs).ro, .int .u32 (getDH xs).dn] 26)) := (Grew.refl _).alloc _
  have hX13 : Blk (w3.alloc (.cells #[.int .i64 (getDH xs).op, .int .u32 (getDH xs).xid, .int .u32 (getDH xs).ci, .int .u32 (getDH xs).yi, .slice vp1 (getDH xs).x.length vk1, .int .i64 (getDH xs).ty, .int .u32 (getDH xs).wa, .int .u32 (getDH xs).se, .int .u32 (getDH xs).le, .int .u32 (getDH xs).ma, .int .u32 (getDH xs).ro, .int .u32 (getDH xs).dn] 26)) w3.heap.size #[.int .i64 (getDH xs).op, .int .u32 (getDH xs).xid, .int .u32 (getDH xs).ci, .int .u32 (getDH xs).yi, .slice vp1 (getDH xs).x.length vk1, .int .i64 (getDH xs).ty, .int .u32 (getDH xs).wa, .int .u32 (getDH xs).se, .int .u32 (getDH xs).le, .int .u32 (getDH xs).ma, .int .u32 (getDH xs).ro, .int .u32 (getDH xs).dn] 26 := Blk.new _ _ _ _ rfl
  replace HF := Lib.hid (HF.out.grew g4)
  replace HX := Lib.hid (HX.out.grew g4)
  replace Ha := Lib.hid (Ha.out.grew g4)
  replace Hb := Lib.hid (Hb.out.grew g4)
  replace Hv := Lib.hid (Hv.out.grew g4)
  replace hB := hB.grew g4
  have G4 := G3.trans g4
  clear g4
  generalize (w3.alloc (.cells #[.int .i64 (getDH xs).op, .int .u32 (getDH xs).xid, .int .u32 (getDH xs).ci, .int .u32 (getDH xs).yi, .slice vp1 (getDH xs).x.length vk1, .int .i64 (getDH xs).ty, .int .u32 (getDH xs).wa, .int .u32 (getDH xs).se, .int .u32 (getDH xs).le, .int .u32 (getDH xs).ma, .int .u32 (getDH xs).ro, .int .u32 (getDH xs).dn] 26)) = w4 at *
  generalize w3.heap.size = X13 at *
  go_wp2_with fail
  refine (refGet20_c HXL.out HX.out).mono ?_
  rintro e w5 ⟨ut, rfl, Ht, g5⟩
  have Et := Ht.shape
  obtain ⟨tp1, tk1, rfl, _⟩ := Et
  replace HF := Lib.hid (HF.out.grew g5)
  replace HX := Lib.hid (HX.out.grew g5)
  replace Ha := Lib.hid (Ha.out.grew g5)
  replace Hb := Lib.hid (Hb.out.grew g5)
  replace Hv := Lib.hid (Hv.out.grew g5)
  replace hB := hB.grew g5
  replace hX13 := hX13.grew g5
  replace Ht := Lib.hid Ht
  have G5 := G4.trans g5
  clear g5
  go_upto_region 7 with fail
  have g6 : Grew w5 (w5.alloc (.cells #[.int .i64 (getDH xs).op, .int .u32 (getDH xs).xid, .int .u32 (getDH xs).ci, .int .u32 (getDH xs).yi, .slice tp1 (getDH xs).x.length tk1, .int .i64 (getDH xs).ty, .int .u32 (getDH xs).wa, .int .u32 (getDH xs).se, .int .u32 (getDH xs).le, .int .u32 (getDH xs).ma, .int .u32 (getDH xs).ro, .int .u32 (getDH xs).dn] 26)) := (Grew.refl _).alloc _
  have hX15 : Blk (w5.alloc (.cells #[.int .i64 (getDH xs).op, .int .u32 (getDH xs).xid, .int .u32 (getDH xs).ci, .int .u32 (getDH xs).yi, .slice tp1 (getDH xs).x.length tk1, .int .i64 (getDH xs).ty, .int .u32 (getDH xs).wa, .int .u32 (getDH xs).se, .int .u32 (getDH xs).le, .int .u32 (getDH xs).ma, .int .u32 (getDH xs).ro, .int .u32 (getDH xs).dn] 26)) w5.heap.size #[.int .i64 (getDH xs).op, .int .u32 (getDH xs).xid, .int .u32 (getDH xs).ci, .int .u32 (getDH xs).yi, .slice tp1 (getDH xs).x.length tk1, .int .i64 (getDH xs).ty, .int .u32 (getDH xs).wa, .int .u32 (getDH xs).se, .int .u32 (getDH xs).le, .int .u32 (getDH xs).ma, .int .u32 (getDH xs).ro, .int .u32 (getDH xs).dn] 26 := Blk.new _ _ _ _ rfl
  replace HF := Lib.hid (HF.out.grew g6)
  replace HX := Lib.hid (HX.out.grew g6)
  replace Ha := Lib.hid (Ha.out.grew g6)
  replace Hb := Lib.hid (Hb.out.grew g6)
  replace Hv := Lib.hid (Hv.out.grew g6)
  replace Ht := Lib.hid (Ht.out.grew g6)
  replace hB := hB.grew g6
  replace hX13 := hX13.grew g6
  have G6 := G5.trans g6
  clear g6
  generalize (w5.alloc (.cells #[.int .i64 (getDH xs).op, .int .u32 (getDH xs).xid, .int .u32 (getDH xs).ci, .int .u32 (getDH xs).yi, .slice tp1 (getDH xs).x.length tk1, .int .i64 (getDH xs).ty, .int .u32 (getDH xs).wa, .int .u32 (getDH xs).se, .int .u32 (getDH xs).le, .int .u32 (getDH xs).ma, .int .u32 (getDH xs).ro, .int .u32 (getDH xs).dn] 26)) = w6 at *
  generalize w5.heap.size = X15 at *
  have E1 := Lib.hid (show (putDHE f == putDHE f) = true by simp)
  have E2 := Lib.hid (show (getDHE xs == getDHE xs) = true by simp)
  obtain ⟨v1v, v2v, evv, hvv⟩ := Hv.out.shape
  simp only [dhV, Value.agg.injEq, Array.mk.injEq, List.cons.injEq, Value.slice.injEq, and_true, true_and] at evv
  obtain ⟨rfl, rfl⟩ := evv
  have HV1 := Lib.hid hvv
  clear hvv
  obtain ⟨v1t, v2t, evt, hvt⟩ := Ht.out.shape
  simp only [dhV, Value.agg.injEq, Array.mk.injEq, List.cons.injEq, Value.slice.injEq, and_true, true_and] at evt
  obtain ⟨rfl, rfl⟩ := evt
  have HW1 := Lib.hid hvt
  clear hvt
  clear h1
  have ew1 := E1.out
  have ew2 := E2.out
  go_wp2_with fail
  refine (same_true20 Ha.out Hb.out).mono ?_
  rintro e x1 ⟨rfl, k1⟩
  have hP13 := hX13.grew k1
  have hP15 := hX15.grew k1
  have y0 := hP13.cell 0
  have y1 := hP13.cell 1
  have y2 := hP13.cell 2
  have y3 := hP13.cell 3
  have y4 := hP13.cell 4
  have y5 := hP13.cell 5
  have y6 := hP13.cell 6
  have y7 := hP13.cell 7
  have y8 := hP13.cell 8
  have y9 := hP13.cell 9
  have y10 := hP13.cell 10
  have y11 := hP13.cell 11
  have z0 := hP15.cell 0
  have z1 := hP15.cell 1
  have z2 := hP15.cell 2
  have z3 := hP15.cell 3
  have z4 := hP15.cell 4
  have z5 := hP15.cell 5
  have z6 := hP15.cell 6
  have z7 := hP15.cell 7
  have z8 := hP15.cell 8
  have z9 := hP15.cell 9
  have z10 := hP15.cell 10
  have z11 := hP15.cell 11
  go_wp2_with fail
  refine (same20_c (f := getDH xs) (HV1.out.grew k1) (HW1.out.grew k1)).mono ?_
  rintro e x2 ⟨rfl, k2⟩
  go_wp2_with fail
  refine (hD (G6.trans (k1.trans k2))).mono ?_
  rintro e wh ⟨rfl, gh⟩
  go_wp2_with fail
  go_ret
  exact ⟨rfl, gh⟩
theorem walk0 (hP : PutC) (hG : GetC) (hD : HeadC) (v : Value) (f : DHR) (u : Value) (xs : List Int) {W : World} (hF : Dh W v f) (hl : f.x.length ≤ 140737488355328) (hb : Buf W u xs) :
    Calls Try.prog 4 #[v, u] W fun e w' => e = .returned (.bool true) ∧ Below W.heap.size W w' := by
  have hF' := hF
  obtain ⟨p1, k1, rfl, _⟩ := hF'.shape
  obtain ⟨a, c, rfl, _, _⟩ := hb.shape
  by_cases h1 : (3000 : Int) < (xs.length : Nat)
  · exact walk_far hD a _ c h1
  · exact walk_near hP hG hD a _ c xs h1 hF hl hb
theorem walk (v : Value) (f : DHR) (u : Value) (xs : List Int) (W : World) (hF : Dh W v f) (hl : f.x.length ≤ 140737488355328) (hb : Buf W u xs) :
    Calls Try.prog 4 #[v, u] W fun e w' => e = .returned (.bool true) ∧ Below W.heap.size W w' :=
  walk0 put20_c get20_c heads_c v f u xs hF hl hb
set_option maxRecDepth 100000 in
theorem lifted (os : Os) (started : os.Started) (H : Type) (enc : TypeId × Value → H) :
    ReturnsInHanded {} Try.checked os 4 .any (Rows.dhcpTellsSpec.pre6 enc Try.prog Try.f4 Rows.dhcpTellsRow.domain false) (Rows.dhcpTellsSpec.post enc Try.prog Try.f4 false true false false) := by
  refine returnsInHanded_of_change_sized (C := Try.checked) own started (by kernel_rfl) Try.func4
    (ChangeSpec.witness6 (enc := enc) (C := Try.checked) false ⟨#[], #[.agg #[.int .i64 0, .int .u32 0, .int .u32 0, .int .u32 0, .slice none 0 0, .int .i64 0, .int .u32 0, .int .u32 0, .int .u32 0, .int .u32 0, .int .u32 0, .int .u32 0], .slice none 0 0], []⟩ 8 (by kernel_rfl) (by kernel_rfl) (by kernel_rfl) (by kernel_rfl)) ?_
  intro W base args ds gs before hval0 hW _ hz0 _
  have hval : ∀ (j : Nat) t v, Try.f4.params[j]? = some t → args[j]? = some v → Value.okWide Try.prog W .any base t v := hval0
  have hW' := hW
  obtain ⟨p, q, hA0, hV, rfl, hfz, hnd⟩ := hW
  have hA : DataW.TrodAll enc Try.prog W 0 (fun _ => true) true Try.f4.params.toList args.toList ds p := hA0
  rw [Try.params4] at hA hval
  obtain ⟨v0, vs0, d0, ds0, p0, q0, hargs, rfl, rfl, h0, r'0⟩ := trodAll_cons hA
  obtain ⟨v1, vs1, d1, ds1, p1, q1, rfl, rfl, rfl, h1, r'1⟩ := trodAll_cons r'0
  obtain ⟨rfl, rfl, rfl⟩ := trodAll_nil r'1
  obtain rfl : args = #[v0, v1] := by cases args; simp_all
  obtain ⟨f0, k0, z0⟩ := open_dhcp (hval 0 26 v0 rfl rfl) h0
  have fits0 := z0 (fun m hm => by simpa using List.all_eq_true.1 hz0 _ (DataW.weights_mem_each (j := 0) (t := 26) rfl rfl m hm))
  obtain ⟨x1, k1⟩ := open_buf Try.underlying22 Try.underlying5 (by kernel_rfl) (hval 1 22 v1 rfl rfl) h1
  refine (walk v0 f0 v1 x1 W k0 fits0 k1).mono fun e W' ⟨he, hb⟩ => ?_
  subst he
  exact ⟨_, rfl, law_post hW' rfl rfl laid (by kernel_rfl) rfl Try.underlying4 hb⟩

theorem over : Rows.dhcpTellsRow.holds Try.pinned (OpenSpec.ofChange Rows.dhcpTellsSpec) :=
  OpenClaim.holds_of_wide 4 Try.f4 rfl rfl rfl rfl rfl rfl rfl ⟨rfl, rfl, rfl, rfl, rfl⟩ rfl rfl rfl rfl rfl (by kernel_rfl) Try.func4 (by kernel_rfl)
    (of_decide_eq_true (by kernel_rfl)) (by unfold Func.isWrapper; first | (rw [if_pos (by decide +kernel)]; kernel_rfl) | (rw [if_neg (by decide +kernel)]; exact ⟨rfl, rfl⟩))
    (fun os started H enc _ => lifted os started H enc)

theorem proved : Rows.DhcpTellsSaid := over
#print axioms proved
end Go.Proofs.Ytnmffkmpkgmkpaa.dhcpTells
