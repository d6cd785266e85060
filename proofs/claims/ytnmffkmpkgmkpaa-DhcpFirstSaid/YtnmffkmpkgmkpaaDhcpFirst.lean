/-
  The statement DhcpFirst: that of two options of one number the first one counts, and that unknown ones, and noughts, do not. For every message, number, bytes, and count of noughts. Conditions: none but those of the statement's row.
-/
import Derived.Test.YtnmffkmpkgmkpaaDhH
import Derived.Test.YtnmffkmpkgmkpaaDhW
import Derived.Test.YtnmffkmpkgmkpaaDhQ
import Derived.Test.YtnmffkmpkgmkpaaLaw
set_option maxRecDepth 4000
set_option linter.unusedVariables false
set_option linter.unusedSimpArgs false
namespace Go.Proofs.Ytnmffkmpkgmkpaa.dhcpFirst
open Go.ChangeShapes Go.WideShapes Go.ChangeAt Go.RowKit

theorem walk_far (hD : HeadC) {f : DHR} {p1 : Option Addr} {k1 : Nat} (want : Int) (a : Option Addr) (n c : Nat) (z : Int) {W : World} (h : ((255 : Int) < (n : Nat)) ∨ (¬ ((255 : Int) < (n : Nat)) ∧ z < 0) ∨ (¬ ((255 : Int) < (n : Nat)) ∧ ¬ z < 0 ∧ 100 < z) ∨ (¬ ((255 : Int) < (n : Nat)) ∧ ¬ z < 0 ∧ ¬ 100 < z ∧ (want == 0) = true)) :
    Calls Try.prog 6 #[.agg #[.int .i64 f.op, .int .u32 f.xid, .int .u32 f.ci, .int .u32 f.yi, .slice p1 f.x.length k1, .int .i64 f.ty, .int .u32 f.wa, .int .u32 f.se, .int .u32 f.le, .int .u32 f.ma, .int .u32 f.ro, .int .u32 f.dn], .int .u32 want, .slice a n c, .int .i64 z] W fun e w' => e = .returned (.bool true) ∧ Below W.heap.size W w' := by
  rcases h with h1 | ⟨h1, h2⟩ | ⟨h1, h2, h3⟩ | ⟨h1, h2, h3, h4⟩
  all_goals
    go_enter Try.func6, Try.ntmps6
    go_upto_region 1 with fail
    have hB : Blk (W.alloc (.cells #[.int .i64 f.op, .int .u32 f.xid, .int .u32 f.ci, .int .u32 f.yi, .slice p1 f.x.length k1, .int .i64 f.ty, .int .u32 f.wa, .int .u32 f.se, .int .u32 f.le, .int .u32 f.ma, .int .u32 f.ro, .int .u32 f.dn] 26)) W.heap.size #[.int .i64 f.op, .int .u32 f.xid, .int .u32 f.ci, .int .u32 f.yi, .slice p1 f.x.length k1, .int .i64 f.ty, .int .u32 f.wa, .int .u32 f.se, .int .u32 f.le, .int .u32 f.ma, .int .u32 f.ro, .int .u32 f.dn] 26 := Blk.new _ _ _ _ rfl
    have g0 : Grew W (W.alloc (.cells #[.int .i64 f.op, .int .u32 f.xid, .int .u32 f.ci, .int .u32 f.yi, .slice p1 f.x.length k1, .int .i64 f.ty, .int .u32 f.wa, .int .u32 f.se, .int .u32 f.le, .int .u32 f.ma, .int .u32 f.ro, .int .u32 f.dn] 26)) := (Grew.refl _).alloc _
    generalize (W.alloc (.cells #[.int .i64 f.op, .int .u32 f.xid, .int .u32 f.ci, .int .u32 f.yi, .slice p1 f.x.length k1, .int .i64 f.ty, .int .u32 f.wa, .int .u32 f.se, .int .u32 f.le, .int .u32 f.ma, .int .u32 f.ro, .int .u32 f.dn] 26)) = w0 at *
    generalize hlB : W.heap.size = B at *
    go_wp2_with fail
    refine (hD (g0)).mono ?_
    rintro e wh ⟨rfl, gh⟩
    go_wp2_with fail
    go_ret
    exact ⟨rfl, gh⟩
set_option maxHeartbeats 2000000 in
theorem walk_no (hP : PutC) (hD : HeadC) {f : DHR} {p1 : Option Addr} {k1 : Nat} (want : Int) (a : Option Addr) (n c : Nat) (z : Int) {W : World} (h1 : ¬ ((255 : Int) < (n : Nat))) (h2 : ¬ z < 0) (h3 : ¬ 100 < z) (h4 : (want == 0) = false) (hok : okDH f = false) (hF : Dh W (.agg #[.int .i64 f.op, .int .u32 f.xid, .int .u32 f.ci, .int .u32 f.yi, .slice p1 f.x.length k1, .int .i64 f.ty, .int .u32 f.wa, .int .u32 f.se, .int .u32 f.le, .int .u32 f.ma, .int .u32 f.ro, .int .u32 f.dn]) f) (hl : f.x.length ≤ 140737488355328) :
    Calls Try.prog 6 #[.agg #[.int .i64 f.op, .int .u32 f.xid, .int .u32 f.ci, .int .u32 f.yi, .slice p1 f.x.length k1, .int .i64 f.ty, .int .u32 f.wa, .int .u32 f.se, .int .u32 f.le, .int .u32 f.ma, .int .u32 f.ro, .int .u32 f.dn], .int .u32 want, .slice a n c, .int .i64 z] W fun e w' => e = .returned (.bool true) ∧ Below W.heap.size W w' := by
  have HFX := Lib.hid hl
  have HF0 := Lib.hid hF
  have HE := Lib.hid (show putDHE f = 2 by unfold putDHE; rw [hok]; rfl)
  have HPB := Lib.hid (show putDHB f = [] by unfold putDHB; rw [hok]; rfl)
  clear hF hl
  go_enter Try.func6, Try.ntmps6
  go_upto_region 1 with fail
  have hB : Blk (W.alloc (.cells #[.int .i64 f.op, .int .u32 f.xid, .int .u32 f.ci, .int .u32 f.yi, .slice p1 f.x.length k1, .int .i64 f.ty, .int .u32 f.wa, .int .u32 f.se, .int .u32 f.le, .int .u32 f.ma, .int .u32 f.ro, .int .u32 f.dn] 26)) W.heap.size #[.int .i64 f.op, .int .u32 f.xid, .int .u32 f.ci, .int .u32 f.yi, .slice p1 f.x.length k1, .int .i64 f.ty, .int .u32 f.wa, .int .u32 f.se, .int .u32 f.le, .int .u32 f.ma, .int .u32 f.ro, .int .u32 f.dn] 26 := Blk.new _ _ _ _ rfl
  have g0 : Grew W (W.alloc (.cells #[.int .i64 f.op, .int .u32 f.xid, .int .u32 f.ci, .int .u32 f.yi, .slice p1 f.x.length k1, .int .i64 f.ty, .int .u32 f.wa, .int .u32 f.se, .int .u32 f.le, .int .u32 f.ma, .int .u32 f.ro, .int .u32 f.dn] 26)) := (Grew.refl _).alloc _
  generalize (W.alloc (.cells #[.int .i64 f.op, .int .u32 f.xid, .int .u32 f.ci, .int .u32 f.yi, .slice p1 f.x.length k1, .int .i64 f.ty, .int .u32 f.wa, .int .u32 f.se, .int .u32 f.le, .int .u32 f.ma, .int .u32 f.ro, .int .u32 f.dn] 26)) = w0 at *
  generalize hlB : W.heap.size = B at *
  have HF := Lib.hid (HF0.out.grew g0)
  have y0 := hB.cell 0
  have y1 := hB.cell 1
  have y2 := hB.cell 2
  have y3 := hB.cell 3
  have y4 := hB.cell 4
  have y5 := hB.cell 5
  have y6 := hB.cell 6
  have y7 := hB.cell 7
  have y8 := hB.cell 8
  have y9 := hB.cell 9
  have y10 := hB.cell 10
  have y11 := hB.cell 11
  go_wp2_with fail
  refine (hP HFX.out HF.out).mono ?_
  rintro e w1 ⟨ua, rfl, Ha, g1⟩
  rw [HE.out]
  rw [HPB.out] at Ha
  obtain ⟨pa, ka, rfl, _, _⟩ := Ha.shape
  replace HF := Lib.hid (HF.out.grew g1)
  replace hB := hB.grew g1
  replace Ha := Lib.hid Ha
  have G1 := g0.trans g1
  clear g1
  clear y0 y1 y2 y3 y4 y5 y6 y7 y8 y9 y10 y11
  go_wp2_with fail
  refine (hD (G1)).mono ?_
  rintro e wh ⟨rfl, gh⟩
  go_wp2_with fail
  go_ret
  exact ⟨rfl, gh⟩
set_option maxHeartbeats 8000000 in
theorem walk_yes (hP : PutC) (hG : GetC) (hD : HeadC) {f : DHR} {p1 : Option Addr} {k1 : Nat} (want : Int) (hw : 0 ≤ want ∧ want < 4294967296) (a : Option Addr) (n c : Nat) (odd : List Int) (z : Int) {W : World} (h1 : ¬ ((255 : Int) < (n : Nat))) (h2 : ¬ z < 0) (h3 : ¬ 100 < z) (h4 : (want == 0) = false) (hok : okDH f = true) (hF : Dh W (.agg #[.int .i64 f.op, .int .u32 f.xid, .int .u32 f.ci, .int .u32 f.yi, .slice p1 f.x.length k1, .int .i64 f.ty, .int .u32 f.wa, .int .u32 f.se, .int .u32 f.le, .int .u32 f.ma, .int .u32 f.ro, .int .u32 f.dn]) f) (hl : f.x.length ≤ 140737488355328) (hb : Buf W (.slice a n c) odd) :
    Calls Try.prog 6 #[.agg #[.int .i64 f.op, .int .u32 f.xid, .int .u32 f.ci, .int .u32 f.yi, .slice p1 f.x.length k1, .int .i64 f.ty, .int .u32 f.wa, .int .u32 f.se, .int .u32 f.le, .int .u32 f.ma, .int .u32 f.ro, .int .u32 f.dn], .int .u32 want, .slice a n c, .int .i64 z] W fun e w' => e = .returned (.bool true) ∧ Below W.heap.size W w' := by
  have hk := okDH_spec hok
  have hpl := putDH_len hok
  obtain ⟨L, hL⟩ : ∃ L, L = (putDH f).length := ⟨_, rfl⟩
  have hL1 : 244 ≤ L := by omega
  have hL2 : L ≤ 280 := by omega
  have HE := Lib.hid (show putDHE f = 0 by unfold putDHE; rw [hok]; rfl)
  have HPB := Lib.hid (show putDHB f = putDH f by unfold putDHB; rw [hok]; rfl)
  have HPL := Lib.hid (show (putDH f).length = L from hL.symm)
  have HFX := Lib.hid hl
  have HF0 := Lib.hid hF
  obtain ⟨zn, rfl⟩ : ∃ zn : Nat, z = (zn : Int) := ⟨z.toNat, by omega⟩
  have hgp := get_ahead hok hF zn want hw (by simpa using h4) odd
  have hn := hb.lenEq.1
  have hho := putDH_head hok
  have hal : (aheadV zn want odd).length = zn + 8 := by simp [aheadV, putB_len]
  have hhl := hdDH_len hk.2.1
  have HM0 := Lib.hid hb
  have HG1 := Lib.hid hgp.1
  have HG2 := Lib.hid hgp.2
  have HH1 := Lib.hid hho.1
  have HH2 := Lib.hid (show cutL (putDH f) 240 L = osDH f ++ [255] by rw [hL]; exact hho.2)
  have hol : (osDH f ++ [255]).length = L - 240 := by rw [← HH2.out, cutL_length (by omega) (by rw [HPL.out]; omega)]
  have HL1 := Lib.hid (show ([] : List Int).length + (hdDH f).length ≤ 140737488355328 by rw [hhl]; simp)
  have HL2 := Lib.hid (show ([] ++ hdDH f).length + (aheadV zn want odd).length ≤ 140737488355328 by rw [List.nil_append, hhl, hal]; omega)
  have HL3 := Lib.hid (show ([] ++ hdDH f ++ aheadV zn want odd).length + odd.length ≤ 140737488355328 by rw [List.nil_append, List.length_append, hhl, hal]; omega)
  have HL4 := Lib.hid (show ([] ++ hdDH f ++ aheadV zn want odd ++ odd).length + (osDH f ++ [255]).length ≤ 140737488355328 by rw [List.nil_append, List.length_append, List.length_append, hhl, hal, hol]; omega)
  have HLC := Lib.hid (show (hdDH f ++ (aheadV zn want odd ++ (odd ++ (osDH f ++ [255])))).length ≤ 140737488355328 by rw [List.length_append, List.length_append, List.length_append, hhl, hal, hol]; omega)
  have HFL := Lib.hid (show [] ++ hdDH f ++ aheadV zn want odd ++ odd ++ (osDH f ++ [255]) = hdDH f ++ (aheadV zn want odd ++ (odd ++ (osDH f ++ [255]))) by simp only [List.nil_append, List.append_assoc])
  have HAK : Hid (AreBytes (aheadV zn want odd)) := Lib.hid (by
    unfold aheadV
    exact (zeros_ok _).app (((bytes_lit' (by omega) (by omega)).app (putB_ok _ _ _)).app (bytes_lit' (by omega) (by omega))))
  have HBL := Lib.hid (show List.replicate zn (0 : Int) ++ [50, 4, want / 16777216, want / 65536 % 256, want / 256 % 256, want % 256, 200, (n : Int)] = aheadV zn want odd by
    unfold aheadV
    rw [show putL want 4 true = [want / 16777216, want / 65536 % 256, want / 256 % 256, want % 256] by simp [putL, placeV, byteV, List.range_succ]; omega, hn]
    rfl)
  have HLB := Lib.hid (show (List.replicate zn (0 : Int)).length + [50, 4, want / 16777216, want / 65536 % 256, want / 256 % 256, want % 256, 200, (n : Int)].length ≤ 140737488355328 by simp; omega)
  have HOK8 := Lib.hid (show AreBytes [50, 4, want / 16777216, want / 65536 % 256, want / 256 % 256, want % 256, 200, (n : Int)] from fun q hq => by simp only [List.mem_cons, List.not_mem_nil, or_false] at hq; omega)
  have ewn : IntKind.u8.wrap (n : Int) = (n : Int) := by rw [wrap_u8]; omega
  have ewn' : (n : Int) % 256 = (n : Int) := by omega
  have k240 : ¬ ((L : Int) < 240) := by omega
  have kz : (zn : Int) ≤ 100 := by omega
  clear hgp hk hpl hho hal hhl hol hL hF hb hl hok hn hL1 hL2
  go_enter Try.func6, Try.ntmps6
  go_upto_region 1 with fail
  have hB : Blk (W.alloc (.cells #[.int .i64 f.op, .int .u32 f.xid, .int .u32 f.ci, .int .u32 f.yi, .slice p1 f.x.length k1, .int .i64 f.ty, .int .u32 f.wa, .int .u32 f.se, .int .u32 f.le, .int .u32 f.ma, .int .u32 f.ro, .int .u32 f.dn] 26)) W.heap.size #[.int .i64 f.op, .int .u32 f.xid, .int .u32 f.ci, .int .u32 f.yi, .slice p1 f.x.length k1, .int .i64 f.ty, .int .u32 f.wa, .int .u32 f.se, .int .u32 f.le, .int .u32 f.ma, .int .u32 f.ro, .int .u32 f.dn] 26 := Blk.new _ _ _ _ rfl
  have g0 : Grew W (W.alloc (.cells #[.int .i64 f.op, .int .u32 f.xid, .int .u32 f.ci, .int .u32 f.yi, .slice p1 f.x.length k1, .int .i64 f.ty, .int .u32 f.wa, .int .u32 f.se, .int .u32 f.le, .int .u32 f.ma, .int .u32 f.ro, .int .u32 f.dn] 26)) := (Grew.refl _).alloc _
  generalize (W.alloc (.cells #[.int .i64 f.op, .int .u32 f.xid, .int .u32 f.ci, .int .u32 f.yi, .slice p1 f.x.length k1, .int .i64 f.ty, .int .u32 f.wa, .int .u32 f.se, .int .u32 f.le, .int .u32 f.ma, .int .u32 f.ro, .int .u32 f.dn] 26)) = w0 at *
  generalize hlB : W.heap.size = B at *
  have HF := Lib.hid (HF0.out.grew g0)
  have HM := Lib.hid (HM0.out.grew g0)
  have y0 := hB.cell 0
  have y1 := hB.cell 1
  have y2 := hB.cell 2
  have y3 := hB.cell 3
  have y4 := hB.cell 4
  have y5 := hB.cell 5
  have y6 := hB.cell 6
  have y7 := hB.cell 7
  have y8 := hB.cell 8
  have y9 := hB.cell 9
  have y10 := hB.cell 10
  have y11 := hB.cell 11
  go_wp2_with fail
  refine (hP HFX.out HF.out).mono ?_
  rintro e w1 ⟨ua, rfl, Ha, g1⟩
  rw [HE.out]
  rw [HPB.out] at Ha
  obtain ⟨pa, ka, rfl, _, _⟩ := Ha.shape
  rw [HPL.out] at Ha ⊢
  replace HF := Lib.hid (HF.out.grew g1)
  replace HM := Lib.hid (HM.out.grew g1)
  replace hB := hB.grew g1
  replace Ha := Lib.hid Ha
  have G1 := g0.trans g1
  clear g1
  clear y0 y1 y2 y3 y4 y5 y6 y7 y8 y9 y10 y11
  go_upto_region 6 with fail
  have gW : Grew w1 w1 := Grew.refl _
  go_upto_region 7 with (first
    | (refine wpList_make_b (W := w1) rfl (.tmp 49) (.tmp 49) rfl gW .i64 .i64 zn zn zn (by rfl) (by rfl) (by rfl) (by omega) (by omega) ?_; intro wm RM gm)
    | (refine wpList_append_b (W := w1) rfl (.tmp 50) (.tmp 65) rfl (gm.alloc _) (RM.out.alloc _) ((Row.lit _ _ (Nat.le_refl _) #[.int .u8 50, .int .u8 4, .int .u8 (want / 16777216), .int .u8 (want / 65536 % 256), .int .u8 (want / 256 % 256), .int .u8 (want % 256), .int .u8 200, .int .u8 (n : Nat)] [50, 4, want / 16777216, want / 65536 % 256, want / 256 % 256, want % 256, 200, (n : Int)] rfl (by unfold maxLen; simp) _ rfl 8 rfl).buf HOK8.out) (by rfl) (by rfl) HLB.out ?_; intro vo wo RO go yo; clear yo))
  rw [HBL.out] at RO
  have HO := Lib.hid (RO.out.buf HAK.out)
  obtain ⟨po, ko, rfl, _, _⟩ := HO.out.shape
  replace Ha := Lib.hid (Ha.out.grew go)
  replace HM := Lib.hid (HM.out.grew go)
  replace HF := Lib.hid (HF.out.grew go)
  replace hB := hB.grew go
  have GO := G1.trans go
  clear RO RM gm go gW HBL HLB HOK8 ewn ewn'
  obtain ⟨q1, e1, C1, z1, z2, hr1, z4⟩ := Ha.out.run_cut (lo := 0) (hi := 240) (by omega) (by rw [HPL.out]; omega)
  have r1 : ∀ w', (Instr.sliceAt 22 (.slice pa L ka) none (some (.int .i64 240)) none).run Try.prog w' = .ok (.slice q1 240 e1) w' := hr1 rfl .i64
  rw [HH1.out] at C1
  have HC1 := Lib.hid C1
  clear z1 z2 hr1 z4 C1
  obtain ⟨q2, e2, C2, z1, z2, z3, hr2⟩ := Ha.out.run_cut (lo := 240) (hi := L) (by omega) (by rw [HPL.out]; omega)
  have r2 : ∀ w', (Instr.sliceAt 22 (.slice pa L ka) (some (.int .i64 240)) none none).run Try.prog w' = .ok (.slice q2 (L - 240) e2) w' := hr2 HPL.out.symm .i64
  rw [HH2.out] at C2
  have HC2 := Lib.hid C2
  clear z1 z2 z3 hr2 C2
  have hst := (Grew.refl wo).drew1
  refine wp_region_held_drew (S := fun w' => Grew wo w') (by kernel_rfl) (by exact hst) (fun hHeld => ?_)
  replace hHeld : Grew wo wo.drew := hHeld
  generalize wo.drew = wq1 at *
  refine wpAnyH_take (i := 1) (v := ?_) rfl (by kernel_rfl) (by kernel_rfl) (by kernel_rfl) (fun _ _ _ h => h) (Or.inl ⟨by rfl, ?_⟩) hHeld ?_
  rotate_left
  · intro wq hSw
    replace hSw : Grew wo wq := hSw
    go_simp
    try with_reducible rfl
  try simp only [List.getElem_toArray, List.getElem_cons_succ, List.getElem_cons_zero, Act.put, List.setIfInBounds_toArray, List.set_cons_zero, List.set_cons_succ]
  refine wpAnyH_take (i := 2) (v := ?_) rfl (by kernel_rfl) (by kernel_rfl) (by kernel_rfl) (fun _ _ _ h => h) (Or.inl ⟨by rfl, ?_⟩) hHeld ?_
  rotate_left
  · intro wq hSw
    replace hSw : Grew wo wq := hSw
    have r := r1
    go_simp
    try with_reducible rfl
  try simp only [List.getElem_toArray, List.getElem_cons_succ, List.getElem_cons_zero, Act.put, List.setIfInBounds_toArray, List.set_cons_zero, List.set_cons_succ]
  refine wpAnyH_take (i := 4) (v := ?_) rfl (by kernel_rfl) (by kernel_rfl) (by kernel_rfl) (fun _ _ _ h => h) (Or.inl ⟨by rfl, ?_⟩) hHeld ?_
  rotate_left
  · intro wq hSw
    replace hSw : Grew wo wq := hSw
    go_simp
    try with_reducible rfl
  try simp only [List.getElem_toArray, List.getElem_cons_succ, List.getElem_cons_zero, Act.put, List.setIfInBounds_toArray, List.set_cons_zero, List.set_cons_succ]
  refine wpAnyH_take (i := 6) (v := ?_) rfl (by kernel_rfl) (by kernel_rfl) (by kernel_rfl) (fun _ _ _ h => h) (Or.inl ⟨by rfl, ?_⟩) hHeld ?_
  rotate_left
  · intro wq hSw
    replace hSw : Grew wo wq := hSw
    go_simp
    try with_reducible rfl
  try simp only [List.getElem_toArray, List.getElem_cons_succ, List.getElem_cons_zero, Act.put, List.setIfInBounds_toArray, List.set_cons_zero, List.set_cons_succ]
  refine wpAnyH_take (i := 8) (v := ?_) rfl (by kernel_rfl) (by kernel_rfl) (by kernel_rfl) (fun _ _ _ h => h) (Or.inl ⟨by rfl, ?_⟩) hHeld ?_
  rotate_left
  · intro wq hSw
    replace hSw : Grew wo wq := hSw
    go_simp
    try with_reducible rfl
  try simp only [List.getElem_toArray, List.getElem_cons_succ, List.getElem_cons_zero, Act.put, List.setIfInBounds_toArray, List.set_cons_zero, List.set_cons_succ]
  refine wpAnyH_take (i := 9) (v := ?_) rfl (by kernel_rfl) (by kernel_rfl) (by kernel_rfl) (fun _ _ _ h => h) (Or.inl ⟨by rfl, ?_⟩) hHeld ?_
  rotate_left
  · intro wq hSw
    replace hSw : Grew wo wq := hSw
    have r := r2
    go_simp
    try with_reducible rfl
  try simp only [List.getElem_toArray, List.getElem_cons_succ, List.getElem_cons_zero, Act.put, List.setIfInBounds_toArray, List.set_cons_zero, List.set_cons_succ]
  refine wpAnyH_ready (rs := [0]) (by kernel_rfl) (by simp) ?_
  refine AllReadyH.cons rfl (fun K hK => ?_) AllReadyH.nil
  go_simp
  have R0 : Hid (Row (wq1.alloc (.cells #[] 5)) wo.heap.size (.slice (some ⟨wq1.heap.size, 0, none⟩) 0 0) []) := Lib.hid (Row.lit wq1 wo.heap.size hHeld.size #[] [] rfl (by unfold maxLen; simp) _ rfl 0 rfl)
  have gk2 : Grew wq1 (wq1.alloc (.cells #[] 5)) := (Grew.refl _).alloc _
  generalize (wq1.alloc (.cells #[] 5)) = wk2 at *
  generalize wq1.heap.size = L0 at *
  refine hK.out _ _ (hHeld.trans gk2) (fun hHeld => ?_)
  clear hK K
  try simp only [List.getElem_toArray, List.getElem_cons_succ, List.getElem_cons_zero, Act.put, List.setIfInBounds_toArray, List.set_cons_zero, List.set_cons_succ]
  refine wpAnyH_ready (rs := [3]) (by kernel_rfl) (by simp) ?_
  refine AllReadyH.cons rfl (fun K hK => ?_) AllReadyH.nil
  refine step_append_t rfl (.tmp 67) (.tmp 69) rfl hHeld R0.out (HC1.out.grew hHeld) (by rfl) (by rfl) HL1.out ?_
  intro vR1 wk3 R1 gk3
  clear R0
  refine hK.out _ _ (gk3) (fun hHeld => ?_)
  clear hK K
  try simp only [List.getElem_toArray, List.getElem_cons_succ, List.getElem_cons_zero, Act.put, List.setIfInBounds_toArray, List.set_cons_zero, List.set_cons_succ]
  refine wpAnyH_ready (rs := [5]) (by kernel_rfl) (by simp) ?_
  refine AllReadyH.cons rfl (fun K hK => ?_) AllReadyH.nil
  refine step_append_t rfl (.tmp 70) (.tmp 71) rfl hHeld R1.out (HO.out.grew hHeld) (by rfl) (by rfl) HL2.out ?_
  intro vR2 wk4 R2 gk4
  clear R1
  refine hK.out _ _ (gk4) (fun hHeld => ?_)
  clear hK K
  try simp only [List.getElem_toArray, List.getElem_cons_succ, List.getElem_cons_zero, Act.put, List.setIfInBounds_toArray, List.set_cons_zero, List.set_cons_succ]
  refine wpAnyH_ready (rs := [7]) (by kernel_rfl) (by simp) ?_
  refine AllReadyH.cons rfl (fun K hK => ?_) AllReadyH.nil
  refine step_append_t rfl (.tmp 72) (.tmp 73) rfl hHeld R2.out (HM.out.grew hHeld) (by rfl) (by rfl) HL3.out ?_
  intro vR3 wk5 R3 gk5
  clear R2
  refine hK.out _ _ (gk5) (fun hHeld => ?_)
  clear hK K
  try simp only [List.getElem_toArray, List.getElem_cons_succ, List.getElem_cons_zero, Act.put, List.setIfInBounds_toArray, List.set_cons_zero, List.set_cons_succ]
  refine wpAnyH_ready (rs := [10]) (by kernel_rfl) (by simp) ?_
  refine AllReadyH.cons rfl (fun K hK => ?_) AllReadyH.nil
  refine step_append_t rfl (.tmp 74) (.tmp 76) rfl hHeld R3.out (HC2.out.grew hHeld) (by rfl) (by rfl) HL4.out ?_
  intro vR4 wk6 R4 gk6
  clear R3
  refine hK.out _ _ (gk6) (fun hHeld => ?_)
  clear hK K
  try simp only [List.getElem_toArray, List.getElem_cons_succ, List.getElem_cons_zero, Act.put, List.setIfInBounds_toArray, List.set_cons_zero, List.set_cons_succ]
  refine wpAnyH_take (i := 11) (v := ?_) rfl (by kernel_rfl) (by kernel_rfl) (by kernel_rfl) (fun _ _ _ h => h) (Or.inl ⟨by rfl, ?_⟩) hHeld ?_
  rotate_left
  · intro wq hSw
    replace hSw : Grew wo wq := hSw
    go_simp
    try with_reducible rfl
  try simp only [List.getElem_toArray, List.getElem_cons_succ, List.getElem_cons_zero, Act.put, List.setIfInBounds_toArray, List.set_cons_zero, List.set_cons_succ]
  refine wpAnyH_done (by kernel_rfl) ?_ _
  try simp only [List.getElem_toArray, List.getElem_cons_succ, List.getElem_cons_zero, Act.put, List.setIfInBounds_toArray, List.set_cons_zero, List.set_cons_succ]
  have HR4 := R4.out
  rw [HFL.out] at HR4
  have HC4 := Lib.hid (HR4.buf (((HC1.out.ok).app (HAK.out.app (HM.out.ok.app HC2.out.ok)))))
  replace Ha := Lib.hid (Ha.out.grew hHeld)
  replace HM := Lib.hid (HM.out.grew hHeld)
  replace HF := Lib.hid (HF.out.grew hHeld)
  replace hB := hB.grew hHeld
  have G20 := GO.trans hHeld
  clear HR4 R4 HO HC1 HC2 r1 r2 GO hHeld
  go_wp2_with fail
  refine (hG HLC.out HC4.out).mono ?_
  rintro e w21 ⟨uv, rfl, Hv, g21⟩
  rw [HG1.out]
  rw [HG2.out] at Hv
  have Ev := Hv.shape
  obtain ⟨vp1, vk1, rfl, _⟩ := Ev
  replace HF := Lib.hid (HF.out.grew g21)
  replace hB := hB.grew g21
  replace Hv := Lib.hid Hv
  have G21 := G20.trans g21
  clear g21
  go_upto_region 9 with fail
  have g22 : Grew w21 (w21.alloc (.cells #[.int .i64 (withWant f want).op, .int .u32 (withWant f want).xid, .int .u32 (withWant f want).ci, .int .u32 (withWant f want).yi, .slice vp1 (withWant f want).x.length vk1, .int .i64 (withWant f want).ty, .int .u32 (withWant f want).wa, .int .u32 (withWant f want).se, .int .u32 (withWant f want).le, .int .u32 (withWant f want).ma, .int .u32 (withWant f want).ro, .int .u32 (withWant f want).dn] 26)) := (Grew.refl _).alloc _
  have hX21 : Blk (w21.alloc (.cells #[.int .i64 (withWant f want).op, .int .u32 (withWant f want).xid, .int .u32 (withWant f want).ci, .int .u32 (withWant f want).yi, .slice vp1 (withWant f want).x.length vk1, .int .i64 (withWant f want).ty, .int .u32 (withWant f want).wa, .int .u32 (withWant f want).se, .int .u32 (withWant f want).le, .int .u32 (withWant f want).ma, .int .u32 (withWant f want).ro, .int .u32 (withWant f want).dn] 26)) w21.heap.size #[.int .i64 (withWant f want).op, .int .u32 (withWant f want).xid, .int .u32 (withWant f want).ci, .int .u32 (withWant f want).yi, .slice vp1 (withWant f want).x.length vk1, .int .i64 (withWant f want).ty, .int .u32 (withWant f want).wa, .int .u32 (withWant f want).se, .int .u32 (withWant f want).le, .int .u32 (withWant f want).ma, .int .u32 (withWant f want).ro, .int .u32 (withWant f want).dn] 26 := Blk.new _ _ _ _ rfl
  replace HF := Lib.hid (HF.out.grew g22)
  replace Hv := Lib.hid (Hv.out.grew g22)
  replace hB := hB.grew g22
  have G22 := G21.trans g22
  clear g22
  generalize (w21.alloc (.cells #[.int .i64 (withWant f want).op, .int .u32 (withWant f want).xid, .int .u32 (withWant f want).ci, .int .u32 (withWant f want).yi, .slice vp1 (withWant f want).x.length vk1, .int .i64 (withWant f want).ty, .int .u32 (withWant f want).wa, .int .u32 (withWant f want).se, .int .u32 (withWant f want).le, .int .u32 (withWant f want).ma, .int .u32 (withWant f want).ro, .int .u32 (withWant f want).dn] 26)) = w22 at *
  generalize w21.heap.size = X21 at *
  have y0 := hB.cell 0
  have y1 := hB.cell 1
  have y2 := hB.cell 2
  have y3 := hB.cell 3
  have y4 := hB.cell 4
  have y5 := hB.cell 5
  have y6 := hB.cell 6
  have y7 := hB.cell 7
  have y8 := hB.cell 8
  have y9 := hB.cell 9
  have y10 := hB.cell 10
  have y11 := hB.cell 11
  go_upto_region 10 with fail
  have hX : Blk (w22.alloc (.cells #[.int .i64 f.op, .int .u32 f.xid, .int .u32 f.ci, .int .u32 f.yi, .slice p1 f.x.length k1, .int .i64 f.ty, .int .u32 f.wa, .int .u32 f.se, .int .u32 f.le, .int .u32 f.ma, .int .u32 f.ro, .int .u32 f.dn] 26)) w22.heap.size #[.int .i64 f.op, .int .u32 f.xid, .int .u32 f.ci, .int .u32 f.yi, .slice p1 f.x.length k1, .int .i64 f.ty, .int .u32 f.wa, .int .u32 f.se, .int .u32 f.le, .int .u32 f.ma, .int .u32 f.ro, .int .u32 f.dn] 26 := Blk.new _ _ _ _ rfl
  have gx : Grew w22 (w22.alloc (.cells #[.int .i64 f.op, .int .u32 f.xid, .int .u32 f.ci, .int .u32 f.yi, .slice p1 f.x.length k1, .int .i64 f.ty, .int .u32 f.wa, .int .u32 f.se, .int .u32 f.le, .int .u32 f.ma, .int .u32 f.ro, .int .u32 f.dn] 26)) := (Grew.refl _).alloc _
  have hne : X21 ≠ w22.heap.size := Nat.ne_of_lt hX21.lt
  have hwX : W.heap.size ≤ w22.heap.size := G22.size
  replace hX21 := hX21.grew gx
  replace Hv := Lib.hid (Hv.out.grew gx)
  replace HF := Lib.hid (HF.out.grew gx)
  have GX := G22.trans gx
  generalize (w22.alloc (.cells #[.int .i64 f.op, .int .u32 f.xid, .int .u32 f.ci, .int .u32 f.yi, .slice p1 f.x.length k1, .int .i64 f.ty, .int .u32 f.wa, .int .u32 f.se, .int .u32 f.le, .int .u32 f.ma, .int .u32 f.ro, .int .u32 f.dn] 26)) = wx at *
  generalize w22.heap.size = X at *
  clear y0 y1 y2 y3 y4 y5 y6 y7 y8 y9 y10 y11
  have x6 := hX.cell 6
  have f6 := hX.free 6
  go_upto_region 11 with fail
  have hX2 := hX.set (o := 6) (.int .u32 want)
  have hY2 := hX21.other (c := X) (o := 6) hne (.int .u32 want)
  have KK : BufsKept wx (wx.setCell ⟨X, 6, none⟩ (.int .u32 want)) := BufsKept.box (o := 6) hX (by simp [noU8]) (.int .u32 want)
  have GX2 := GX.setCell (b := X) (o := 6) hwX (.int .u32 want)
  replace Hv := Lib.hid (Hv.out.kept KK)
  replace HF := Lib.hid (HF.out.kept KK)
  replace hX2 : Blk _ X #[.int .i64 (withWant f want).op, .int .u32 (withWant f want).xid, .int .u32 (withWant f want).ci, .int .u32 (withWant f want).yi, .slice p1 (withWant f want).x.length k1, .int .i64 (withWant f want).ty, .int .u32 (withWant f want).wa, .int .u32 (withWant f want).se, .int .u32 (withWant f want).le, .int .u32 (withWant f want).ma, .int .u32 (withWant f want).ro, .int .u32 (withWant f want).dn] 26 := hX2
  clear x6 f6 KK hX hX21 GX hne gx
  generalize (wx.setCell ⟨X, 6, none⟩ (.int .u32 want)) = wy at *
  obtain ⟨v1f, v2f, evf, hvf⟩ := HF.out.shape
  simp only [dhV, Value.agg.injEq, Array.mk.injEq, List.cons.injEq, Value.slice.injEq, and_true, true_and] at evf
  obtain ⟨rfl, rfl⟩ := evf
  have HV1 := Lib.hid hvf
  clear hvf
  obtain ⟨v1v, v2v, evv, hvv⟩ := Hv.out.shape
  simp only [dhV, Value.agg.injEq, Array.mk.injEq, List.cons.injEq, Value.slice.injEq, and_true, true_and] at evv
  obtain ⟨rfl, rfl⟩ := evv
  have HW1 := Lib.hid hvv
  clear hvv
  clear h1 h2 h3 h4
  have y0 := hX2.cell 0
  have y1 := hX2.cell 1
  have y2 := hX2.cell 2
  have y3 := hX2.cell 3
  have y4 := hX2.cell 4
  have y5 := hX2.cell 5
  have y6 := hX2.cell 6
  have y7 := hX2.cell 7
  have y8 := hX2.cell 8
  have y9 := hX2.cell 9
  have y10 := hX2.cell 10
  have y11 := hX2.cell 11
  have z0 := hY2.cell 0
  have z1 := hY2.cell 1
  have z2 := hY2.cell 2
  have z3 := hY2.cell 3
  have z4 := hY2.cell 4
  have z5 := hY2.cell 5
  have z6 := hY2.cell 6
  have z7 := hY2.cell 7
  have z8 := hY2.cell 8
  have z9 := hY2.cell 9
  have z10 := hY2.cell 10
  have z11 := hY2.cell 11
  go_wp2_with fail
  refine (same20_c (f := withWant f want) HW1.out (show Buf _ (.slice p1 (withWant f want).x.length k1) (withWant f want).x from HV1.out)).mono ?_
  rintro e x1 ⟨rfl, k1'⟩
  go_wp2_with fail
  refine (hD (GX2.trans k1')).mono ?_
  rintro e wh ⟨rfl, gh⟩
  go_wp2_with fail
  go_ret
  exact ⟨rfl, gh⟩
theorem walk0 (hP : PutC) (hG : GetC) (hD : HeadC) (v : Value) (f : DHR) (want : Int) (hw : 0 ≤ want ∧ want < 4294967296) (u : Value) (xs : List Int) (z : Int) (hz : -9223372036854775808 ≤ z ∧ z ≤ 9223372036854775807) {W : World} (hF : Dh W v f) (hl : f.x.length ≤ 140737488355328) (hb : Buf W u xs) :
    Calls Try.prog 6 #[v, .int .u32 want, u, .int .i64 z] W fun e w' => e = .returned (.bool true) ∧ Below W.heap.size W w' := by
  have hF' := hF
  obtain ⟨p1, k1, rfl, _⟩ := hF'.shape
  obtain ⟨a, c, rfl, _, _⟩ := hb.shape
  by_cases h1 : (255 : Int) < (xs.length : Nat)
  · exact walk_far hD want a _ c z (.inl h1)
  · by_cases h2 : z < 0
    · exact walk_far hD want a _ c z (.inr (.inl ⟨h1, h2⟩))
    · by_cases h3 : 100 < z
      · exact walk_far hD want a _ c z (.inr (.inr (.inl ⟨h1, h2, h3⟩)))
      · cases h4 : (want == 0)
        · cases hok : okDH f
          · exact walk_no hP hD want a _ c z h1 h2 h3 h4 hok hF hl
          · exact walk_yes hP hG hD want hw a _ c xs z h1 h2 h3 h4 hok hF hl hb
        · exact walk_far hD want a _ c z (.inr (.inr (.inr ⟨h1, h2, h3, h4⟩)))
theorem walk (v : Value) (f : DHR) (want : Int) (hw : 0 ≤ want ∧ want < 4294967296) (u : Value) (xs : List Int) (z : Int) (hz : -9223372036854775808 ≤ z ∧ z ≤ 9223372036854775807) (W : World) (hF : Dh W v f) (hl : f.x.length ≤ 140737488355328) (hb : Buf W u xs) :
    Calls Try.prog 6 #[v, .int .u32 want, u, .int .i64 z] W fun e w' => e = .returned (.bool true) ∧ Below W.heap.size W w' :=
  walk0 put20_c get20_c heads_c v f want hw u xs z hz hF hl hb
set_option maxRecDepth 100000 in
theorem lifted (os : Os) (started : os.Started) (H : Type) (enc : TypeId × Value → H) :
    ReturnsInHanded {} Try.checked os 6 .any (Rows.dhcpFirstSpec.pre6 enc Try.prog Try.f6 Rows.dhcpFirstRow.domain false) (Rows.dhcpFirstSpec.post enc Try.prog Try.f6 false true false false) := by
  refine returnsInHanded_of_change_sized (C := Try.checked) own started (by kernel_rfl) Try.func6
    (ChangeSpec.witness6 (enc := enc) (C := Try.checked) false ⟨#[], #[.agg #[.int .i64 0, .int .u32 0, .int .u32 0, .int .u32 0, .slice none 0 0, .int .i64 0, .int .u32 0, .int .u32 0, .int .u32 0, .int .u32 0, .int .u32 0, .int .u32 0], .int .u32 0, .slice none 0 0, .int .i64 0], []⟩ 8 (by kernel_rfl) (by kernel_rfl) (by kernel_rfl) (by kernel_rfl)) ?_
  intro W base args ds gs before hval0 hW _ hz0 _
  have hval : ∀ (j : Nat) t v, Try.f6.params[j]? = some t → args[j]? = some v → Value.okWide Try.prog W .any base t v := hval0
  have hW' := hW
  obtain ⟨p, q, hA0, hV, rfl, hfz, hnd⟩ := hW
  have hA : DataW.TrodAll enc Try.prog W 0 (fun _ => true) true Try.f6.params.toList args.toList ds p := hA0
  rw [Try.params6] at hA hval
  obtain ⟨v0, vs0, d0, ds0, p0, q0, hargs, rfl, rfl, h0, r'0⟩ := trodAll_cons hA
  obtain ⟨v1, vs1, d1, ds1, p1, q1, rfl, rfl, rfl, h1, r'1⟩ := trodAll_cons r'0
  obtain ⟨v2, vs2, d2, ds2, p2, q2, rfl, rfl, rfl, h2, r'2⟩ := trodAll_cons r'1
  obtain ⟨v3, vs3, d3, ds3, p3, q3, rfl, rfl, rfl, h3, r'3⟩ := trodAll_cons r'2
  obtain ⟨rfl, rfl, rfl⟩ := trodAll_nil r'3
  obtain rfl : args = #[v0, v1, v2, v3] := by cases args; simp_all
  obtain ⟨f0, k0, z0⟩ := open_dhcp (hval 0 26 v0 rfl rfl) h0
  have fits0 := z0 (fun m hm => by simpa using List.all_eq_true.1 hz0 _ (DataW.weights_mem_each (j := 0) (t := 26) rfl rfl m hm))
  obtain ⟨a1, rfl, rfl, rfl, w1⟩ := open_int Try.underlying24 (hval 1 24 v1 rfl rfl) h1
  obtain ⟨x2, k2⟩ := open_buf Try.underlying22 Try.underlying5 (by kernel_rfl) (hval 2 22 v2 rfl rfl) h2
  obtain ⟨a3, rfl, rfl, rfl, w3⟩ := open_int Try.underlying3 (hval 3 3 v3 rfl rfl) h3
  refine (walk v0 f0 a1 (wf_u32 w1) v2 x2 a3 (wf_i64 w3) W k0 fits0 k2).mono fun e W' ⟨he, hb⟩ => ?_
  subst he
  exact ⟨_, rfl, law_post hW' rfl rfl laid (by kernel_rfl) rfl Try.underlying4 hb⟩

theorem over : Rows.dhcpFirstRow.holds Try.pinned (OpenSpec.ofChange Rows.dhcpFirstSpec) :=
  OpenClaim.holds_of_wide 6 Try.f6 rfl rfl rfl rfl rfl rfl rfl ⟨rfl, rfl, rfl, rfl, rfl⟩ rfl rfl rfl rfl rfl (by kernel_rfl) Try.func6 (by kernel_rfl)
    (of_decide_eq_true (by kernel_rfl)) (by unfold Func.isWrapper; first | (rw [if_pos (by decide +kernel)]; kernel_rfl) | (rw [if_neg (by decide +kernel)]; exact ⟨rfl, rfl⟩))
    (fun os started H enc _ => lifted os started H enc)

theorem proved : Rows.DhcpFirstSaid := over
#print axioms proved
end Go.Proofs.Ytnmffkmpkgmkpaa.dhcpFirst
