/-
  Package dhcp: Put, of all messages.
-/
import Derived.Test.YtnmffkmpkgmkpaaDhE
set_option maxRecDepth 4000
set_option linter.unusedVariables false
set_option linter.unusedSimpArgs false
namespace Go.Proofs.Ytnmffkmpkgmkpaa
open Go.RowKit

/-- All options and their end. -/
def obD (f : DHR) : List Int := osDH f ++ [255]
/-- What the operations of a region give. -/
def rgPut (W : World) (f : DHR) (p1 : Option Addr) (k1 : Nat) : (Nat → Value) → Nat → Value → World → Prop
  | _, 0, v, _ => v = .agg #[.int .i64 f.op, .int .u32 f.xid, .int .u32 f.ci, .int .u32 f.yi, .slice p1 f.x.length k1, .int .i64 f.ty, .int .u32 f.wa, .int .u32 f.se, .int .u32 f.le, .int .u32 f.ma, .int .u32 f.ro, .int .u32 f.dn]
  | _, 1, v, w => ∃ a c, v = .slice a 240 c ∧ Buf w (.slice a 240 c) (hdDH f)
  | _, 2, v, _ => v = .agg #[.int .i64 f.op, .int .u32 f.xid, .int .u32 f.ci, .int .u32 f.yi, .slice p1 f.x.length k1, .int .i64 f.ty, .int .u32 f.wa, .int .u32 f.se, .int .u32 f.le, .int .u32 f.ma, .int .u32 f.ro, .int .u32 f.dn]
  | _, 3, v, w => ∃ b0, v = .map (some b0) ∧ OM w b0 7 (opF f)
  | _, 4, v, w => ∃ a c, v = .slice a (obD f).length c ∧ Buf w (.slice a (obD f).length c) (obD f)
  | _, 5, v, w => ∃ b0, v = .slice (some ⟨b0, 0, none⟩) 2 2 ∧ Bufs w (.slice (some ⟨b0, 0, none⟩) 2 2) [hdDH f, obD f]
  | _, 6, v, w => ∃ a c, v = .slice a (putDH f).length c ∧ Buf w (.slice a (putDH f).length c) (putDH f)
  | _, _, _, _ => True
theorem rgPut_grew {W : World} {f : DHR} {p1 : Option Addr} {k1 : Nat} : ∀ vs j v w w', Grew w w' → rgPut W f p1 k1 vs j v w → rgPut W f p1 k1 vs j v w'
  | _, 0, _, _, _, _, h => h
  | _, 1, _, _, _, g, ⟨b0, b1, e, h0⟩ => ⟨b0, b1, e, h0.grew g⟩
  | _, 2, _, _, _, _, h => h
  | _, 3, _, _, _, g, ⟨b0, e, h0⟩ => ⟨b0, e, h0.grew g⟩
  | _, 4, _, _, _, g, ⟨b0, b1, e, h0⟩ => ⟨b0, b1, e, h0.grew g⟩
  | _, 5, _, _, _, g, ⟨b0, e, h0⟩ => ⟨b0, e, h0.grew g⟩
  | _, 6, _, _, _, g, ⟨b0, b1, e, h0⟩ => ⟨b0, b1, e, h0.grew g⟩
  | _, _ + 7, _, _, _, _, _ => True.intro
theorem rgPut_lt {W : World} {f : DHR} {p1 : Option Addr} {k1 : Nat} : ∀ vs j v w, ([] : List Nat).contains j = true → rgPut W f p1 k1 vs j v w → ∀ g, leadsTo v = some g → g < w.heap.size
  | _, 0, _, _, hc, _ => by simp at hc
  | _, 1, _, _, hc, _ => by simp at hc
  | _, 2, _, _, hc, _ => by simp at hc
  | _, 3, _, _, hc, _ => by simp at hc
  | _, 4, _, _, hc, _ => by simp at hc
  | _, 5, _, _, hc, _ => by simp at hc
  | _, 6, _, _, hc, _ => by simp at hc
  | _, _ + 7, _, _, hc, _ => by simp at hc
theorem rgPut_loc {W : World} {f : DHR} {p1 : Option Addr} {k1 : Nat} : ∀ (vs vs' : Nat → Value) j v w, (∀ k ∈ ([[], [], [], [], [], [], []] : List (List Nat)).getD j [], vs k = vs' k) → rgPut W f p1 k1 vs j v w → rgPut W f p1 k1 vs' j v w
  | _, _, 0, _, _, _, h => h
  | _, _, 1, _, _, _, h => h
  | _, _, 2, _, _, _, h => h
  | _, _, 3, _, _, _, h => h
  | _, _, 4, _, _, _, h => h
  | _, _, 5, _, _, _, h => h
  | _, _, 6, _, _, _, h => h
  | _, _, _ + 7, _, _, _, _ => True.intro
theorem put20_no {f : DHR} {p1 : Option Addr} {k1 : Nat} (hok : okDH f = false) {w : World} (hv : Dh w (.agg #[.int .i64 f.op, .int .u32 f.xid, .int .u32 f.ci, .int .u32 f.yi, .slice p1 f.x.length k1, .int .i64 f.ty, .int .u32 f.wa, .int .u32 f.se, .int .u32 f.le, .int .u32 f.ma, .int .u32 f.ro, .int .u32 f.dn]) f) :
    Calls Try.prog 10 #[.agg #[.int .i64 f.op, .int .u32 f.xid, .int .u32 f.ci, .int .u32 f.yi, .slice p1 f.x.length k1, .int .i64 f.ty, .int .u32 f.wa, .int .u32 f.se, .int .u32 f.le, .int .u32 f.ma, .int .u32 f.ro, .int .u32 f.dn]] w fun e w' => e = .returned (.tuple #[.slice none 0 0, .int .i64 2]) ∧ Grew w w' := by
  have HV := Lib.hid hv
  have HOK := Lib.hid hok
  clear hv hok
  go_enter Try.func10, Try.ntmps10
  go_upto_region 1 with fail
  have hB : Blk (w.alloc (.cells #[.int .i64 f.op, .int .u32 f.xid, .int .u32 f.ci, .int .u32 f.yi, .slice p1 f.x.length k1, .int .i64 f.ty, .int .u32 f.wa, .int .u32 f.se, .int .u32 f.le, .int .u32 f.ma, .int .u32 f.ro, .int .u32 f.dn] 26)) w.heap.size #[.int .i64 f.op, .int .u32 f.xid, .int .u32 f.ci, .int .u32 f.yi, .slice p1 f.x.length k1, .int .i64 f.ty, .int .u32 f.wa, .int .u32 f.se, .int .u32 f.le, .int .u32 f.ma, .int .u32 f.ro, .int .u32 f.dn] 26 := Blk.new _ _ _ _ rfl
  have g0 : Grew w (w.alloc (.cells #[.int .i64 f.op, .int .u32 f.xid, .int .u32 f.ci, .int .u32 f.yi, .slice p1 f.x.length k1, .int .i64 f.ty, .int .u32 f.wa, .int .u32 f.se, .int .u32 f.le, .int .u32 f.ma, .int .u32 f.ro, .int .u32 f.dn] 26)) := (Grew.refl _).alloc _
  generalize (w.alloc (.cells #[.int .i64 f.op, .int .u32 f.xid, .int .u32 f.ci, .int .u32 f.yi, .slice p1 f.x.length k1, .int .i64 f.ty, .int .u32 f.wa, .int .u32 f.se, .int .u32 f.le, .int .u32 f.ma, .int .u32 f.ro, .int .u32 f.dn] 26)) = w0 at *
  generalize hlB : w.heap.size = B at *
  have y0 := hB.cell 0
  have y1 := hB.cell 1
  have y2 := hB.cell 2
  have y3 := hB.cell 3
  have y4 := hB.cell 4
  have y5 := hB.cell 5
  have y6 := hB.cell 6
  have y7 := hB.cell 7
  have y8 := hB.cell 8
  have y9 := hB.cell 9
  have y10 := hB.cell 10
  have y11 := hB.cell 11
  go_wp2_with fail
  refine (isMsg_c (HV.out.grew g0)).mono ?_
  rintro e w1 ⟨rfl, g1⟩
  rw [HOK.out]
  go_wp2_with fail
  go_ret2
  exact ⟨rfl, g0.trans g1⟩
set_option maxHeartbeats 4000000 in
theorem put20_yes {f : DHR} {p1 : Option Addr} {k1 : Nat} (hok : okDH f = true) {w : World} (hv : Dh w (.agg #[.int .i64 f.op, .int .u32 f.xid, .int .u32 f.ci, .int .u32 f.yi, .slice p1 f.x.length k1, .int .i64 f.ty, .int .u32 f.wa, .int .u32 f.se, .int .u32 f.le, .int .u32 f.ma, .int .u32 f.ro, .int .u32 f.dn]) f) (hb1 : Buf w (.slice p1 f.x.length k1) f.x) :
    Calls Try.prog 10 #[.agg #[.int .i64 f.op, .int .u32 f.xid, .int .u32 f.ci, .int .u32 f.yi, .slice p1 f.x.length k1, .int .i64 f.ty, .int .u32 f.wa, .int .u32 f.se, .int .u32 f.le, .int .u32 f.ma, .int .u32 f.ro, .int .u32 f.dn]] w fun e w' => ∃ u, e = .returned (.tuple #[u, .int .i64 0]) ∧ Buf w' u (putDH f) ∧ Grew w w' := by
  have hk := okDH_spec hok
  have HTY := Lib.hid hk.2.2
  have HWO := Lib.hid (show wrTo (opF f) 7 ++ [255] = obD f by rw [wrTo_opF hk.2.2.1 hk.2.2.2]; rfl)
  have hhl := hdDH_len hk.2.1
  have hol := osDH_len f
  have HFL := Lib.hid (show [hdDH f, obD f].flatten = putDH f by simp [putDH, obD])
  have HLN := Lib.hid (show [hdDH f, obD f].flatten.length ≤ 140737488355328 by simp only [List.flatten_cons, List.flatten_nil, List.append_nil, List.length_append, List.length_cons, List.length_nil, obD]; omega)
  have HV0 := Lib.hid hv
  have HOK := Lib.hid hok
  have HX0 := Lib.hid hb1
  clear hv hok hb1 hk hhl hol
  go_enter Try.func10, Try.ntmps10
  go_upto_region 1 with fail
  have hB : Blk (w.alloc (.cells #[.int .i64 f.op, .int .u32 f.xid, .int .u32 f.ci, .int .u32 f.yi, .slice p1 f.x.length k1, .int .i64 f.ty, .int .u32 f.wa, .int .u32 f.se, .int .u32 f.le, .int .u32 f.ma, .int .u32 f.ro, .int .u32 f.dn] 26)) w.heap.size #[.int .i64 f.op, .int .u32 f.xid, .int .u32 f.ci, .int .u32 f.yi, .slice p1 f.x.length k1, .int .i64 f.ty, .int .u32 f.wa, .int .u32 f.se, .int .u32 f.le, .int .u32 f.ma, .int .u32 f.ro, .int .u32 f.dn] 26 := Blk.new _ _ _ _ rfl
  have g0 : Grew w (w.alloc (.cells #[.int .i64 f.op, .int .u32 f.xid, .int .u32 f.ci, .int .u32 f.yi, .slice p1 f.x.length k1, .int .i64 f.ty, .int .u32 f.wa, .int .u32 f.se, .int .u32 f.le, .int .u32 f.ma, .int .u32 f.ro, .int .u32 f.dn] 26)) := (Grew.refl _).alloc _
  generalize (w.alloc (.cells #[.int .i64 f.op, .int .u32 f.xid, .int .u32 f.ci, .int .u32 f.yi, .slice p1 f.x.length k1, .int .i64 f.ty, .int .u32 f.wa, .int .u32 f.se, .int .u32 f.le, .int .u32 f.ma, .int .u32 f.ro, .int .u32 f.dn] 26)) = w0 at *
  generalize hlB : w.heap.size = B at *
  have y0 := hB.cell 0
  have y1 := hB.cell 1
  have y2 := hB.cell 2
  have y3 := hB.cell 3
  have y4 := hB.cell 4
  have y5 := hB.cell 5
  have y6 := hB.cell 6
  have y7 := hB.cell 7
  have y8 := hB.cell 8
  have y9 := hB.cell 9
  have y10 := hB.cell 10
  have y11 := hB.cell 11
  go_wp2_with fail
  refine (isMsg_c (HV0.out.grew g0)).mono ?_
  rintro e w1 ⟨rfl, g1⟩
  rw [HOK.out]
  have G1 := g0.trans g1
  have HB := Lib.hid (hB.grew g1)
  have HV := Lib.hid (HV0.out.grew G1)
  have HX := Lib.hid (HX0.out.grew G1)
  have HG1 := Lib.hid G1
  clear y0 y1 y2 y3 y4 y5 y6 y7 y8 y9 y10 y11 hB g0 g1 HV0 HX0 G1
  go_upto_region 3 with fail
  refine region_deps 7 [some 7, some 8, some 9, some 10, some 11, some 12, some 13] [[], [], [], [], [], [], []] [] (rgPut w1 f p1 k1) rgPut_grew rgPut_lt rgPut_loc (Grew.refl w1) (by kernel_rfl) (by kernel_rfl) ?_ ?_
  · simp only [List.take_succ_cons, List.take_zero]
    refine GivesAll.cons (fun vs w1 g1 hd K hK => ?_) ?_
    · simp only [putsT, Nat.zero_add, Nat.reduceAdd, List.getD_cons_zero, List.getD_cons_succ, Act.put, List.setIfInBounds_toArray, List.set_cons_zero, List.set_cons_succ] at hK ⊢
      have y0 := (HB.out.grew g1).cell 0
      have y1 := (HB.out.grew g1).cell 1
      have y2 := (HB.out.grew g1).cell 2
      have y3 := (HB.out.grew g1).cell 3
      have y4 := (HB.out.grew g1).cell 4
      have y5 := (HB.out.grew g1).cell 5
      have y6 := (HB.out.grew g1).cell 6
      have y7 := (HB.out.grew g1).cell 7
      have y8 := (HB.out.grew g1).cell 8
      have y9 := (HB.out.grew g1).cell 9
      have y10 := (HB.out.grew g1).cell 10
      have y11 := (HB.out.grew g1).cell 11
      go_simp
      exact hK _ _ (Grew.refl _) rfl (fun h => by simp at h)
    refine GivesAll.cons (fun vs w1 g1 hd K hK => ?_) ?_
    · have e0 : vs 0 = .agg #[.int .i64 f.op, .int .u32 f.xid, .int .u32 f.ci, .int .u32 f.yi, .slice p1 f.x.length k1, .int .i64 f.ty, .int .u32 f.wa, .int .u32 f.se, .int .u32 f.le, .int .u32 f.ma, .int .u32 f.ro, .int .u32 f.dn] := hd 0 (by kernel_rfl)
      simp only [putsT, Nat.zero_add, Nat.reduceAdd, List.getD_cons_zero, List.getD_cons_succ, Act.put, List.setIfInBounds_toArray, List.set_cons_zero, List.set_cons_succ, e0] at hK ⊢
      go_simp
      refine Calls.mono (headOf20_c HOK.out (HV.out.grew g1) (HX.out.grew g1)) ?_
      rintro e w5 ⟨a, c, rfl, hb, g5⟩
      exact hK _ _ g5 ⟨_, _, rfl, hb⟩ (fun h => by simp at h)
    refine GivesAll.cons (fun vs w1 g1 hd K hK => ?_) ?_
    · simp only [putsT, Nat.zero_add, Nat.reduceAdd, List.getD_cons_zero, List.getD_cons_succ, Act.put, List.setIfInBounds_toArray, List.set_cons_zero, List.set_cons_succ] at hK ⊢
      have y0 := (HB.out.grew g1).cell 0
      have y1 := (HB.out.grew g1).cell 1
      have y2 := (HB.out.grew g1).cell 2
      have y3 := (HB.out.grew g1).cell 3
      have y4 := (HB.out.grew g1).cell 4
      have y5 := (HB.out.grew g1).cell 5
      have y6 := (HB.out.grew g1).cell 6
      have y7 := (HB.out.grew g1).cell 7
      have y8 := (HB.out.grew g1).cell 8
      have y9 := (HB.out.grew g1).cell 9
      have y10 := (HB.out.grew g1).cell 10
      have y11 := (HB.out.grew g1).cell 11
      go_simp
      exact hK _ _ (Grew.refl _) rfl (fun h => by simp at h)
    refine GivesAll.cons (fun vs w1 g1 hd K hK => ?_) ?_
    · have e2 : vs 2 = .agg #[.int .i64 f.op, .int .u32 f.xid, .int .u32 f.ci, .int .u32 f.yi, .slice p1 f.x.length k1, .int .i64 f.ty, .int .u32 f.wa, .int .u32 f.se, .int .u32 f.le, .int .u32 f.ma, .int .u32 f.ro, .int .u32 f.dn] := hd 2 (by kernel_rfl)
      simp only [putsT, Nat.zero_add, Nat.reduceAdd, List.getD_cons_zero, List.getD_cons_succ, Act.put, List.setIfInBounds_toArray, List.set_cons_zero, List.set_cons_succ, e2] at hK ⊢
      go_simp
      refine Calls.mono (optionsOf_c HTY.out.1 HTY.out.2 (HV.out.grew g1)) ?_
      rintro e w5 ⟨b0, rfl, hb, g5⟩
      exact hK _ _ g5 ⟨_, rfl, hb⟩ (fun h => by simp at h)
    refine GivesAll.cons (fun vs w1 g1 hd K hK => ?_) ?_
    · obtain ⟨b0_3, e3, r3_0⟩ := hd 3 (by kernel_rfl)
      simp only [putsT, Nat.zero_add, Nat.reduceAdd, List.getD_cons_zero, List.getD_cons_succ, Act.put, List.setIfInBounds_toArray, List.set_cons_zero, List.set_cons_succ, e3] at hK ⊢
      go_simp
      refine Calls.mono (bytes_c r3_0) ?_
      rintro e w5 ⟨u, rfl, hb, g5⟩
      rw [HWO.out] at hb
      obtain ⟨a, c, rfl, _, _⟩ := hb.shape
      exact hK _ _ g5 ⟨_, _, rfl, hb⟩ (fun h => by simp at h)
    refine GivesAll.cons (fun vs w1 g1 hd K hK => ?_) ?_
    · obtain ⟨a_1, c_1, e1, r1_0⟩ := hd 1 (by kernel_rfl)
      obtain ⟨a_4, c_4, e4, r4_0⟩ := hd 4 (by kernel_rfl)
      simp only [putsT, Nat.zero_add, Nat.reduceAdd, List.getD_cons_zero, List.getD_cons_succ, Act.put, List.setIfInBounds_toArray, List.set_cons_zero, List.set_cons_succ, e1, e4] at hK ⊢
      go_simp
      exact hK _ _ ((Grew.refl _).alloc _) ⟨_, rfl, Bufs.ofBlk (Blk.new w1 #[.slice a_1 240 c_1, .slice a_4 (obD f).length c_4] 22 _ rfl) [hdDH f, obD f] 2 2 rfl (by unfold maxLen; simp) (fun i hi => by match i, hi with | 0, _ => exact ⟨_, rfl, (r1_0).grew ((Grew.refl w1).alloc _)⟩ | 1, _ => exact ⟨_, rfl, (r4_0).grew ((Grew.refl w1).alloc _)⟩)⟩ (fun h => by simp at h)
    refine GivesAll.cons (fun vs w1 g1 hd K hK => ?_) ?_
    · obtain ⟨b0_5, e5, r5_0⟩ := hd 5 (by kernel_rfl)
      simp only [putsT, Nat.zero_add, Nat.reduceAdd, List.getD_cons_zero, List.getD_cons_succ, Act.put, List.setIfInBounds_toArray, List.set_cons_zero, List.set_cons_succ, e5] at hK ⊢
      go_simp
      refine Calls.mono (concat_b w1 r5_0 HLN.out) ?_
      rintro e w5 ⟨u, rfl, hrow, hb, g5⟩
      rw [HFL.out] at hb
      obtain ⟨a, c, rfl, _, _⟩ := hb.shape
      exact hK _ _ g5 ⟨_, _, rfl, hb⟩ (fun h => by simp at h)
    exact GivesAll.nil
  intro vs wz gz hv hap
  have e0 : vs 0 = .agg #[.int .i64 f.op, .int .u32 f.xid, .int .u32 f.ci, .int .u32 f.yi, .slice p1 f.x.length k1, .int .i64 f.ty, .int .u32 f.wa, .int .u32 f.se, .int .u32 f.le, .int .u32 f.ma, .int .u32 f.ro, .int .u32 f.dn] := hv 0 (by decide)
  obtain ⟨a_1, c_1, e1, r1_0⟩ := hv 1 (by decide)
  have e2 : vs 2 = .agg #[.int .i64 f.op, .int .u32 f.xid, .int .u32 f.ci, .int .u32 f.yi, .slice p1 f.x.length k1, .int .i64 f.ty, .int .u32 f.wa, .int .u32 f.se, .int .u32 f.le, .int .u32 f.ma, .int .u32 f.ro, .int .u32 f.dn] := hv 2 (by decide)
  obtain ⟨b0_3, e3, r3_0⟩ := hv 3 (by decide)
  obtain ⟨a_4, c_4, e4, r4_0⟩ := hv 4 (by decide)
  obtain ⟨b0_5, e5, r5_0⟩ := hv 5 (by decide)
  obtain ⟨a_6, c_6, e6, r6_0⟩ := hv 6 (by decide)
  clear hv hap
  simp only [putsT, Nat.zero_add, Nat.reduceAdd, List.getD_cons_zero, List.getD_cons_succ, Act.put, List.setIfInBounds_toArray, List.set_cons_zero, List.set_cons_succ, List.drop_succ_cons, List.drop_zero, e0, e1, e2, e3, e4, e5, e6]
  clear e0 e1 e2 e3 e4 e5 e6
  have HR := Lib.hid r6_0
  clear r1_0 r3_0 r4_0 r5_0 r6_0
  go_wp2_with fail
  go_ret2
  exact ⟨_, rfl, HR.out, HG1.out.trans gz⟩
theorem put20_c : PutC := by
  intro v f _ w hv
  have hv' := hv
  obtain ⟨p1, k1, rfl, b1⟩ := hv.shape
  unfold putDHE putDHB
  cases h : okDH f
  · exact (put20_no h hv').mono fun _ _ ⟨h1, h2⟩ => ⟨_, h1, Buf.nil _, h2⟩
  · exact put20_yes h hv' b1
end Go.Proofs.Ytnmffkmpkgmkpaa
