/-
  Package dhcp: Get, of all bytes.
-/
import Derived.Test.YtnmffkmpkgmkpaaDhC
import Derived.Test.YtnmffkmpkgmkpaaDhW
import Derived.Test.YtnmffkmpkgmkpaaDeps
set_option maxRecDepth 4000
set_option linter.unusedVariables false
set_option linter.unusedSimpArgs false
namespace Go.Proofs.Ytnmffkmpkgmkpaa
open Go.RowKit

/-- What the operations of a region give. -/
def rgMs (W : World) (bk off n c0 : Nat) (y0 y4 y12 y16 : Int) (a6 : Option Addr) (c6 : Nat) (ys : List Int) : (Nat → Value) → Nat → Value → World → Prop
  | _, 0, v, _ => v = .slice (some ⟨bk, off, none⟩) n c0
  | _, 1, v, _ => v = .pointer (some ⟨bk, off, none⟩)
  | _, 2, v, _ => v = .int .u8 y0
  | _, 3, v, _ => v = .int .i64 y0
  | _, 4, v, _ => v = .slice (some ⟨bk, off, none⟩) n c0
  | _, 5, v, _ => v = .int .u32 y4
  | _, 6, v, _ => v = .slice (some ⟨bk, off, none⟩) n c0
  | _, 7, v, _ => v = .int .u32 y12
  | _, 8, v, _ => v = .slice (some ⟨bk, off, none⟩) n c0
  | _, 9, v, _ => v = .int .u32 y16
  | _, 10, v, _ => v = .slice (some ⟨bk, off, none⟩) n c0
  | _, 11, v, _ => v = .slice a6 6 c6
  | _, 12, v, w => ∃ a c, v = .slice a 6 c ∧ Buf w (.slice a 6 c) ys
  | _, 13, v, w => ∃ a c, v = .agg #[.int .i64 y0, .int .u32 y4, .int .u32 y12, .int .u32 y16, .slice a 6 c, .int .i64 0, .int .u32 0, .int .u32 0, .int .u32 0, .int .u32 0, .int .u32 0, .int .u32 0] ∧ Buf w (.slice a 6 c) ys
  | _, _, _, _ => True
theorem rgMs_grew {W : World} {bk off n c0 : Nat} {y0 y4 y12 y16 : Int} {a6 : Option Addr} {c6 : Nat} {ys : List Int} : ∀ vs j v w w', Grew w w' → rgMs W bk off n c0 y0 y4 y12 y16 a6 c6 ys vs j v w → rgMs W bk off n c0 y0 y4 y12 y16 a6 c6 ys vs j v w'
  | _, 0, _, _, _, _, h => h
  | _, 1, _, _, _, _, h => h
  | _, 2, _, _, _, _, h => h
  | _, 3, _, _, _, _, h => h
  | _, 4, _, _, _, _, h => h
  | _, 5, _, _, _, _, h => h
  | _, 6, _, _, _, _, h => h
  | _, 7, _, _, _, _, h => h
  | _, 8, _, _, _, _, h => h
  | _, 9, _, _, _, _, h => h
  | _, 10, _, _, _, _, h => h
  | _, 11, _, _, _, _, h => h
  | _, 12, _, _, _, g, ⟨b0, b1, e, h0⟩ => ⟨b0, b1, e, h0.grew g⟩
  | _, 13, _, _, _, g, ⟨b0, b1, e, h0⟩ => ⟨b0, b1, e, h0.grew g⟩
  | _, _ + 14, _, _, _, _, _ => True.intro
theorem rgMs_lt {W : World} {bk off n c0 : Nat} {y0 y4 y12 y16 : Int} {a6 : Option Addr} {c6 : Nat} {ys : List Int} : ∀ vs j v w, ([] : List Nat).contains j = true → rgMs W bk off n c0 y0 y4 y12 y16 a6 c6 ys vs j v w → ∀ g, leadsTo v = some g → g < w.heap.size
  | _, 0, _, _, hc, _ => by simp at hc
  | _, 1, _, _, hc, _ => by simp at hc
  | _, 2, _, _, hc, _ => by simp at hc
  | _, 3, _, _, hc, _ => by simp at hc
  | _, 4, _, _, hc, _ => by simp at hc
  | _, 5, _, _, hc, _ => by simp at hc
  | _, 6, _, _, hc, _ => by simp at hc
  | _, 7, _, _, hc, _ => by simp at hc
  | _, 8, _, _, hc, _ => by simp at hc
  | _, 9, _, _, hc, _ => by simp at hc
  | _, 10, _, _, hc, _ => by simp at hc
  | _, 11, _, _, hc, _ => by simp at hc
  | _, 12, _, _, hc, _ => by simp at hc
  | _, 13, _, _, hc, _ => by simp at hc
  | _, _ + 14, _, _, hc, _ => by simp at hc
theorem rgMs_loc {W : World} {bk off n c0 : Nat} {y0 y4 y12 y16 : Int} {a6 : Option Addr} {c6 : Nat} {ys : List Int} : ∀ (vs vs' : Nat → Value) j v w, (∀ k ∈ ([[], [], [], [], [], [], [], [], [], [], [], [], [], []] : List (List Nat)).getD j [], vs k = vs' k) → rgMs W bk off n c0 y0 y4 y12 y16 a6 c6 ys vs j v w → rgMs W bk off n c0 y0 y4 y12 y16 a6 c6 ys vs' j v w
  | _, _, 0, _, _, _, h => h
  | _, _, 1, _, _, _, h => h
  | _, _, 2, _, _, _, h => h
  | _, _, 3, _, _, _, h => h
  | _, _, 4, _, _, _, h => h
  | _, _, 5, _, _, _, h => h
  | _, _, 6, _, _, _, h => h
  | _, _, 7, _, _, _, h => h
  | _, _, 8, _, _, _, h => h
  | _, _, 9, _, _, _, h => h
  | _, _, 10, _, _, _, h => h
  | _, _, 11, _, _, _, h => h
  | _, _, 12, _, _, _, h => h
  | _, _, 13, _, _, _, h => h
  | _, _, _ + 14, _, _, _, _ => True.intro
set_option maxHeartbeats 4000000 in
theorem msgAt_v (bk off n c0 : Nat) (y0 y4 y12 y16 : Int) (hy0 : 0 ≤ y0 ∧ y0 < 256) {a6 : Option Addr} {c6 : Nat} {ys : List Int} (hy6 : ys.length = 6) {w : World} (hx0 : w.cell? ⟨bk, off, none⟩ = some (.int .u8 y0)) (hlt : bk < w.heap.size) (hn : (240 : Int) ≤ (n : Int))
    (h4 : ∀ w', Grew w w' → Calls Try.prog 30 #[.slice (some ⟨bk, off, none⟩) n c0, .int .i64 4] w' fun e w'' => e = .returned (.int .u32 y4) ∧ w'' = w')
    (h12 : ∀ w', Grew w w' → Calls Try.prog 30 #[.slice (some ⟨bk, off, none⟩) n c0, .int .i64 12] w' fun e w'' => e = .returned (.int .u32 y12) ∧ w'' = w')
    (h16 : ∀ w', Grew w w' → Calls Try.prog 30 #[.slice (some ⟨bk, off, none⟩) n c0, .int .i64 16] w' fun e w'' => e = .returned (.int .u32 y16) ∧ w'' = w')
    (hcut : ∀ w', (Instr.sliceAt 22 (.slice (some ⟨bk, off, none⟩) n c0) (some (.int .i64 28)) (some (.int .i64 34)) none).run Try.prog w' = .ok (.slice a6 6 c6) w') (hc6 : Buf w (.slice a6 6 c6) ys) :
    Calls Try.prog 16 #[.slice (some ⟨bk, off, none⟩) n c0] w fun e w' => ∃ a c, e = .returned (.agg #[.int .i64 y0, .int .u32 y4, .int .u32 y12, .int .u32 y16, .slice a 6 c, .int .i64 0, .int .u32 0, .int .u32 0, .int .u32 0, .int .u32 0, .int .u32 0, .int .u32 0]) ∧ Buf w' (.slice a 6 c) ys ∧ Grew w w' := by
  have HW0 := Lib.hid (show IntKind.i64.wrap y0 = y0 from IntWalk.i64_in _ (by omega))
  have HY6 := Lib.hid hy6
  have HL6 := Lib.hid (show ys.length ≤ 140737488355328 by omega)
  have HCUT := Lib.hid hcut
  have hn0 : (0 : Int) < (n : Int) := by omega
  have hn1 : 0 < n := by omega
  clear hcut hy6 hy0
  go_enter Try.func16, Try.ntmps16
  go_upto_region 1 with fail
  have hR : Blk (w.alloc (.cells #[.int .i64 0, .int .u32 0, .int .u32 0, .int .u32 0, .slice none 0 0, .int .i64 0, .int .u32 0, .int .u32 0, .int .u32 0, .int .u32 0, .int .u32 0, .int .u32 0] 26)) w.heap.size #[.int .i64 0, .int .u32 0, .int .u32 0, .int .u32 0, .slice none 0 0, .int .i64 0, .int .u32 0, .int .u32 0, .int .u32 0, .int .u32 0, .int .u32 0, .int .u32 0] 26 := Blk.new _ _ _ _ rfl
  have g0 : Grew w (w.alloc (.cells #[.int .i64 0, .int .u32 0, .int .u32 0, .int .u32 0, .slice none 0 0, .int .i64 0, .int .u32 0, .int .u32 0, .int .u32 0, .int .u32 0, .int .u32 0, .int .u32 0] 26)) := (Grew.refl _).alloc _
  generalize (w.alloc (.cells #[.int .i64 0, .int .u32 0, .int .u32 0, .int .u32 0, .slice none 0 0, .int .i64 0, .int .u32 0, .int .u32 0, .int .u32 0, .int .u32 0, .int .u32 0, .int .u32 0] 26)) = w0 at *
  generalize hlR : w.heap.size = R at *
  have hwR : w.heap.size ≤ R := by omega
  have HX0 := Lib.hid (show ∀ w1, Grew w0 w1 → w1.cell? ⟨bk, off, none⟩ = some (.int .u8 y0) from fun w1 g => by rw [(gcell (g0.trans g)).1 bk off (by omega)]; exact hx0)
  have HA4 := Lib.hid (fun w1 (g : Grew w0 w1) => h4 w1 (g0.trans g))
  have HA12 := Lib.hid (fun w1 (g : Grew w0 w1) => h12 w1 (g0.trans g))
  have HA16 := Lib.hid (fun w1 (g : Grew w0 w1) => h16 w1 (g0.trans g))
  have HC6 := Lib.hid (hc6.grew g0)
  have HR0 := Lib.hid hR
  have HG0 := Lib.hid g0
  clear h4 h12 h16 hc6 hx0 hR g0
  refine region_deps 14 [some 3, some 4, some 5, some 6, some 7, some 8, some 9, some 10, some 11, some 12, some 13, some 14, some 15, some 16] [[], [], [], [], [], [], [], [], [], [], [], [], [], []] [] (rgMs w0 bk off n c0 y0 y4 y12 y16 a6 c6 ys) rgMs_grew rgMs_lt rgMs_loc (Grew.refl w0) (by kernel_rfl) (by kernel_rfl) ?_ ?_
  · simp only [List.take_succ_cons, List.take_zero]
    refine GivesAll.cons (fun vs w1 g1 hd K hK => ?_) ?_
    · simp only [putsT, Nat.zero_add, Nat.reduceAdd, List.getD_cons_zero, List.getD_cons_succ, Act.put, List.setIfInBounds_toArray, List.set_cons_zero, List.set_cons_succ] at hK ⊢
      go_simp
      exact hK _ _ (Grew.refl _) rfl (fun h => by simp at h)
    refine GivesAll.cons (fun vs w1 g1 hd K hK => ?_) ?_
    · have e0 : vs 0 = .slice (some ⟨bk, off, none⟩) n c0 := hd 0 (by kernel_rfl)
      simp only [putsT, Nat.zero_add, Nat.reduceAdd, List.getD_cons_zero, List.getD_cons_succ, Act.put, List.setIfInBounds_toArray, List.set_cons_zero, List.set_cons_succ, e0] at hK ⊢
      go_simp
      exact hK _ _ (Grew.refl _) rfl (fun h => by simp at h)
    refine GivesAll.cons (fun vs w1 g1 hd K hK => ?_) ?_
    · have e1 : vs 1 = .pointer (some ⟨bk, off, none⟩) := hd 1 (by kernel_rfl)
      simp only [putsT, Nat.zero_add, Nat.reduceAdd, List.getD_cons_zero, List.getD_cons_succ, Act.put, List.setIfInBounds_toArray, List.set_cons_zero, List.set_cons_succ, e1] at hK ⊢
      have x0 := HX0.out w1 g1
      go_simp
      exact hK _ _ (Grew.refl _) rfl (fun h => by simp at h)
    refine GivesAll.cons (fun vs w1 g1 hd K hK => ?_) ?_
    · have e2 : vs 2 = .int .u8 y0 := hd 2 (by kernel_rfl)
      simp only [putsT, Nat.zero_add, Nat.reduceAdd, List.getD_cons_zero, List.getD_cons_succ, Act.put, List.setIfInBounds_toArray, List.set_cons_zero, List.set_cons_succ, e2] at hK ⊢
      have ew := HW0.out
      go_simp
      exact hK _ _ (Grew.refl _) rfl (fun h => by simp at h)
    refine GivesAll.cons (fun vs w1 g1 hd K hK => ?_) ?_
    · simp only [putsT, Nat.zero_add, Nat.reduceAdd, List.getD_cons_zero, List.getD_cons_succ, Act.put, List.setIfInBounds_toArray, List.set_cons_zero, List.set_cons_succ] at hK ⊢
      go_simp
      exact hK _ _ (Grew.refl _) rfl (fun h => by simp at h)
    refine GivesAll.cons (fun vs w1 g1 hd K hK => ?_) ?_
    · have e4 : vs 4 = .slice (some ⟨bk, off, none⟩) n c0 := hd 4 (by kernel_rfl)
      simp only [putsT, Nat.zero_add, Nat.reduceAdd, List.getD_cons_zero, List.getD_cons_succ, Act.put, List.setIfInBounds_toArray, List.set_cons_zero, List.set_cons_succ, e4] at hK ⊢
      go_simp
      refine Calls.mono (HA4.out w1 g1) ?_
      rintro e w5 ⟨rfl, h5⟩
      obtain rfl := h5.symm
      exact hK _ _ (Grew.refl _) rfl (fun h => by simp at h)
    refine GivesAll.cons (fun vs w1 g1 hd K hK => ?_) ?_
    · simp only [putsT, Nat.zero_add, Nat.reduceAdd, List.getD_cons_zero, List.getD_cons_succ, Act.put, List.setIfInBounds_toArray, List.set_cons_zero, List.set_cons_succ] at hK ⊢
      go_simp
      exact hK _ _ (Grew.refl _) rfl (fun h => by simp at h)
    refine GivesAll.cons (fun vs w1 g1 hd K hK => ?_) ?_
    · have e6 : vs 6 = .slice (some ⟨bk, off, none⟩) n c0 := hd 6 (by kernel_rfl)
      simp only [putsT, Nat.zero_add, Nat.reduceAdd, List.getD_cons_zero, List.getD_cons_succ, Act.put, List.setIfInBounds_toArray, List.set_cons_zero, List.set_cons_succ, e6] at hK ⊢
      go_simp
      refine Calls.mono (HA12.out w1 g1) ?_
      rintro e w5 ⟨rfl, h5⟩
      obtain rfl := h5.symm
      exact hK _ _ (Grew.refl _) rfl (fun h => by simp at h)
    refine GivesAll.cons (fun vs w1 g1 hd K hK => ?_) ?_
    · simp only [putsT, Nat.zero_add, Nat.reduceAdd, List.getD_cons_zero, List.getD_cons_succ, Act.put, List.setIfInBounds_toArray, List.set_cons_zero, List.set_cons_succ] at hK ⊢
      go_simp
      exact hK _ _ (Grew.refl _) rfl (fun h => by simp at h)
    refine GivesAll.cons (fun vs w1 g1 hd K hK => ?_) ?_
    · have e8 : vs 8 = .slice (some ⟨bk, off, none⟩) n c0 := hd 8 (by kernel_rfl)
      simp only [putsT, Nat.zero_add, Nat.reduceAdd, List.getD_cons_zero, List.getD_cons_succ, Act.put, List.setIfInBounds_toArray, List.set_cons_zero, List.set_cons_succ, e8] at hK ⊢
      go_simp
      refine Calls.mono (HA16.out w1 g1) ?_
      rintro e w5 ⟨rfl, h5⟩
      obtain rfl := h5.symm
      exact hK _ _ (Grew.refl _) rfl (fun h => by simp at h)
    refine GivesAll.cons (fun vs w1 g1 hd K hK => ?_) ?_
    · simp only [putsT, Nat.zero_add, Nat.reduceAdd, List.getD_cons_zero, List.getD_cons_succ, Act.put, List.setIfInBounds_toArray, List.set_cons_zero, List.set_cons_succ] at hK ⊢
      go_simp
      exact hK _ _ (Grew.refl _) rfl (fun h => by simp at h)
    refine GivesAll.cons (fun vs w1 g1 hd K hK => ?_) ?_
    · have e10 : vs 10 = .slice (some ⟨bk, off, none⟩) n c0 := hd 10 (by kernel_rfl)
      simp only [putsT, Nat.zero_add, Nat.reduceAdd, List.getD_cons_zero, List.getD_cons_succ, Act.put, List.setIfInBounds_toArray, List.set_cons_zero, List.set_cons_succ, e10] at hK ⊢
      have hr := HCUT.out
      go_simp
      exact hK _ _ (Grew.refl _) rfl (fun h => by simp at h)
    refine GivesAll.cons (fun vs w1 g1 hd K hK => ?_) ?_
    · have e11 : vs 11 = .slice a6 6 c6 := hd 11 (by kernel_rfl)
      simp only [putsT, Nat.zero_add, Nat.reduceAdd, List.getD_cons_zero, List.getD_cons_succ, Act.put, List.setIfInBounds_toArray, List.set_cons_zero, List.set_cons_succ, e11] at hK ⊢
      go_simp
      refine Calls.mono (cloneB_c HL6.out (HC6.out.grew g1)) ?_
      rintro e w5 ⟨a, c, rfl, hrow, hb, g5⟩
      rw [HY6.out] at hb ⊢
      exact hK _ _ g5 ⟨_, _, rfl, hb⟩ (fun h => by simp at h)
    refine GivesAll.cons (fun vs w1 g1 hd K hK => ?_) ?_
    · have e3 : vs 3 = .int .i64 y0 := hd 3 (by kernel_rfl)
      have e5 : vs 5 = .int .u32 y4 := hd 5 (by kernel_rfl)
      have e7 : vs 7 = .int .u32 y12 := hd 7 (by kernel_rfl)
      have e9 : vs 9 = .int .u32 y16 := hd 9 (by kernel_rfl)
      obtain ⟨a_12, c_12, e12, r12_0⟩ := hd 12 (by kernel_rfl)
      simp only [putsT, Nat.zero_add, Nat.reduceAdd, List.getD_cons_zero, List.getD_cons_succ, Act.put, List.setIfInBounds_toArray, List.set_cons_zero, List.set_cons_succ, e3, e5, e7, e9, e12] at hK ⊢
      go_simp
      exact hK _ _ (Grew.refl _) ⟨_, _, rfl, r12_0⟩ (fun h => by simp at h)
    exact GivesAll.nil
  intro vs wz gz hv hap
  have e0 : vs 0 = .slice (some ⟨bk, off, none⟩) n c0 := hv 0 (by decide)
  have e1 : vs 1 = .pointer (some ⟨bk, off, none⟩) := hv 1 (by decide)
  have e2 : vs 2 = .int .u8 y0 := hv 2 (by decide)
  have e3 : vs 3 = .int .i64 y0 := hv 3 (by decide)
  have e4 : vs 4 = .slice (some ⟨bk, off, none⟩) n c0 := hv 4 (by decide)
  have e5 : vs 5 = .int .u32 y4 := hv 5 (by decide)
  have e6 : vs 6 = .slice (some ⟨bk, off, none⟩) n c0 := hv 6 (by decide)
  have e7 : vs 7 = .int .u32 y12 := hv 7 (by decide)
  have e8 : vs 8 = .slice (some ⟨bk, off, none⟩) n c0 := hv 8 (by decide)
  have e9 : vs 9 = .int .u32 y16 := hv 9 (by decide)
  have e10 : vs 10 = .slice (some ⟨bk, off, none⟩) n c0 := hv 10 (by decide)
  have e11 : vs 11 = .slice a6 6 c6 := hv 11 (by decide)
  obtain ⟨a_12, c_12, e12, r12_0⟩ := hv 12 (by decide)
  obtain ⟨a_13, c_13, e13, r13_0⟩ := hv 13 (by decide)
  clear hv hap
  simp only [putsT, Nat.zero_add, Nat.reduceAdd, List.getD_cons_zero, List.getD_cons_succ, Act.put, List.setIfInBounds_toArray, List.set_cons_zero, List.set_cons_succ, List.drop_succ_cons, List.drop_zero, e0, e1, e2, e3, e4, e5, e6, e7, e8, e9, e10, e11, e12, e13]
  clear e0 e1 e2 e3 e4 e5 e6 e7 e8 e9 e10 e11 e12 e13
  have HB := Lib.hid r13_0
  have hR := HR0.out.grew gz
  have G := HG0.out.trans gz
  clear r12_0 r13_0 HG0 HR0 gz
  have x0 := hR.cell 0
  have x1 := hR.cell 1
  have x2 := hR.cell 2
  have x3 := hR.cell 3
  have x4 := hR.cell 4
  have x5 := hR.cell 5
  have x6 := hR.cell 6
  have x7 := hR.cell 7
  have x8 := hR.cell 8
  have x9 := hR.cell 9
  have x10 := hR.cell 10
  have x11 := hR.cell 11
  have q0 := hR.free 0
  have q1 := hR.free 1
  have q2 := hR.free 2
  have q3 := hR.free 3
  have q4 := hR.free 4
  have q5 := hR.free 5
  have q6 := hR.free 6
  have q7 := hR.free 7
  have q8 := hR.free 8
  have q9 := hR.free 9
  have q10 := hR.free 10
  have q11 := hR.free 11
  go_wp2_with fail
  have E := ((((((((((((hR.set (o := 0) ((.int .i64 y0))).set (o := 1) ((.int .u32 y4))).set (o := 2) ((.int .u32 y12))).set (o := 3) ((.int .u32 y16))).set (o := 4) ((.slice a_13 6 c_13))).set (o := 5) ((.int .i64 0))).set (o := 6) ((.int .u32 0))).set (o := 7) ((.int .u32 0))).set (o := 8) ((.int .u32 0))).set (o := 9) ((.int .u32 0))).set (o := 10) ((.int .u32 0))).set (o := 11) ((.int .u32 0)))
  have GE := ((((((((((((G.setCell (b := R) (o := 0) (hwR) ((.int .i64 y0))).setCell (b := R) (o := 1) (hwR) ((.int .u32 y4))).setCell (b := R) (o := 2) (hwR) ((.int .u32 y12))).setCell (b := R) (o := 3) (hwR) ((.int .u32 y16))).setCell (b := R) (o := 4) (hwR) ((.slice a_13 6 c_13))).setCell (b := R) (o := 5) (hwR) ((.int .i64 0))).setCell (b := R) (o := 6) (hwR) ((.int .u32 0))).setCell (b := R) (o := 7) (hwR) ((.int .u32 0))).setCell (b := R) (o := 8) (hwR) ((.int .u32 0))).setCell (b := R) (o := 9) (hwR) ((.int .u32 0))).setCell (b := R) (o := 10) (hwR) ((.int .u32 0))).setCell (b := R) (o := 11) (hwR) ((.int .u32 0)))
  have KK := ((((((((((((BufsKept.box (o := 0) hR (by simp [noU8]) ((.int .i64 y0))).trans (BufsKept.box (o := 1) (hR.set (o := 0) ((.int .i64 y0))) (by simp [noU8]) ((.int .u32 y4)))).trans (BufsKept.box (o := 2) ((hR.set (o := 0) ((.int .i64 y0))).set (o := 1) ((.int .u32 y4))) (by simp [noU8]) ((.int .u32 y12)))).trans (BufsKept.box (o := 3) (((hR.set (o := 0) ((.int .i64 y0))).set (o := 1) ((.int .u32 y4))).set (o := 2) ((.int .u32 y12))) (by simp [noU8]) ((.int .u32 y16)))).trans (BufsKept.box (o := 4) ((((hR.set (o := 0) ((.int .i64 y0))).set (o := 1) ((.int .u32 y4))).set (o := 2) ((.int .u32 y12))).set (o := 3) ((.int .u32 y16))) (by simp [noU8]) ((.slice a_13 6 c_13)))).trans (BufsKept.box (o := 5) (((((hR.set (o := 0) ((.int .i64 y0))).set (o := 1) ((.int .u32 y4))).set (o := 2) ((.int .u32 y12))).set (o := 3) ((.int .u32 y16))).set (o := 4) ((.slice a_13 6 c_13))) (by simp [noU8]) ((.int .i64 0)))).trans (BufsKept.box (o := 6) ((((((hR.set (o := 0) ((.int .i64 y0))).set (o := 1) ((.int .u32 y4))).set (o := 2) ((.int .u32 y12))).set (o := 3) ((.int .u32 y16))).set (o := 4) ((.slice a_13 6 c_13))).set (o := 5) ((.int .i64 0))) (by simp [noU8]) ((.int .u32 0)))).trans (BufsKept.box (o := 7) (((((((hR.set (o := 0) ((.int .i64 y0))).set (o := 1) ((.int .u32 y4))).set (o := 2) ((.int .u32 y12))).set (o := 3) ((.int .u32 y16))).set (o := 4) ((.slice a_13 6 c_13))).set (o := 5) ((.int .i64 0))).set (o := 6) ((.int .u32 0))) (by simp [noU8]) ((.int .u32 0)))).trans (BufsKept.box (o := 8) ((((((((hR.set (o := 0) ((.int .i64 y0))).set (o := 1) ((.int .u32 y4))).set (o := 2) ((.int .u32 y12))).set (o := 3) ((.int .u32 y16))).set (o := 4) ((.slice a_13 6 c_13))).set (o := 5) ((.int .i64 0))).set (o := 6) ((.int .u32 0))).set (o := 7) ((.int .u32 0))) (by simp [noU8]) ((.int .u32 0)))).trans (BufsKept.box (o := 9) (((((((((hR.set (o := 0) ((.int .i64 y0))).set (o := 1) ((.int .u32 y4))).set (o := 2) ((.int .u32 y12))).set (o := 3) ((.int .u32 y16))).set (o := 4) ((.slice a_13 6 c_13))).set (o := 5) ((.int .i64 0))).set (o := 6) ((.int .u32 0))).set (o := 7) ((.int .u32 0))).set (o := 8) ((.int .u32 0))) (by simp [noU8]) ((.int .u32 0)))).trans (BufsKept.box (o := 10) ((((((((((hR.set (o := 0) ((.int .i64 y0))).set (o := 1) ((.int .u32 y4))).set (o := 2) ((.int .u32 y12))).set (o := 3) ((.int .u32 y16))).set (o := 4) ((.slice a_13 6 c_13))).set (o := 5) ((.int .i64 0))).set (o := 6) ((.int .u32 0))).set (o := 7) ((.int .u32 0))).set (o := 8) ((.int .u32 0))).set (o := 9) ((.int .u32 0))) (by simp [noU8]) ((.int .u32 0)))).trans (BufsKept.box (o := 11) (((((((((((hR.set (o := 0) ((.int .i64 y0))).set (o := 1) ((.int .u32 y4))).set (o := 2) ((.int .u32 y12))).set (o := 3) ((.int .u32 y16))).set (o := 4) ((.slice a_13 6 c_13))).set (o := 5) ((.int .i64 0))).set (o := 6) ((.int .u32 0))).set (o := 7) ((.int .u32 0))).set (o := 8) ((.int .u32 0))).set (o := 9) ((.int .u32 0))).set (o := 10) ((.int .u32 0))) (by simp [noU8]) ((.int .u32 0))))
  have e0 := E.cell 0
  have e1 := E.cell 1
  have e2 := E.cell 2
  have e3 := E.cell 3
  have e4 := E.cell 4
  have e5 := E.cell 5
  have e6 := E.cell 6
  have e7 := E.cell 7
  have e8 := E.cell 8
  have e9 := E.cell 9
  have e10 := E.cell 10
  have e11 := E.cell 11
  exact bodyPost_ret (v := .agg #[.int .i64 y0, .int .u32 y4, .int .u32 y12, .int .u32 y16, .slice a_13 6 c_13, .int .i64 0, .int .u32 0, .int .u32 0, .int .u32 0, .int .u32 0, .int .u32 0, .int .u32 0]) (by simp [results, Try.results16, go_sem, e0, e1, e2, e3, e4, e5, e6, e7, e8, e9, e10, e11]) rfl ⟨_, _, rfl, KK _ _ HB.out, GE⟩
theorem msgAt_c {v : Value} {xs : List Int} (hl : 240 ≤ xs.length) {w : World} (hb : Buf w v xs) :
    Calls Try.prog 16 #[v] w fun e w' => ∃ u, e = .returned u ∧ Dh w' u (msD xs) ∧ Grew w w' := by
  have hq := hb
  obtain ⟨a, c, rfl, _, ha⟩ := hb.shape
  have hne : xs ≠ [] := by rintro rfl; simp at hl
  obtain ⟨bk, off, rfl, hat⟩ := ha hne
  have x0 := hat 0 (by omega)
  rw [Nat.add_zero] at x0
  have hlt := BytesAt.lt (w := w) (xs := xs) hat hne
  obtain ⟨a6, c6, hcut, _, hrun, _, _⟩ := hq.run_cut (lo := 28) (hi := 34) (by omega) (by omega)
  have l6 : (cutL xs 28 34).length = 6 := by rw [cutL_length (by omega) (by omega)]
  have g4 : ∀ lo hi, hi = lo + 4 → hi ≤ xs.length → 0 ≤ getV (cutL xs lo hi) true ∧ getV (cutL xs lo hi) true < 4294967296 := fun lo hi e h => by
    have := getG_lt (hq.ok.cut lo hi) true (n := 4) (by rw [cutL_length (by omega) h]; omega) (by omega)
    rwa [show (2 : Int) ^ (8 * 4) = 4294967296 by decide] at this
  have z0 := hq.ok.getD 0
  refine (msgAt_v bk off xs.length c (xs.getD 0 0) _ _ _ z0 l6 x0 hlt (by omega) (fun w' g => dhLongAt_c 4 4 8 (by rfl) rfl (by omega) w' (hq.grew g)) (fun w' g => dhLongAt_c 12 12 16 (by rfl) rfl (by omega) w' (hq.grew g)) (fun w' g => dhLongAt_c 16 16 20 (by rfl) rfl (by omega) w' (hq.grew g)) (fun w' => hrun .i64 .i64 w') hcut).mono ?_
  rintro e w' ⟨a, c, rfl, hb', g⟩
  rw [← l6] at hb' ⊢
  exact ⟨_, rfl, Dh.of hb' (by unfold intI; omega) (g4 4 8 rfl (by omega)) (g4 12 16 rfl (by omega)) (g4 16 20 rfl (by omega)) (by simp [intI]) (by simp [u32I]) (by simp [u32I]) (by simp [u32I]) (by simp [u32I]) (by simp [u32I]) (by simp [u32I]), g⟩
theorem get20_short (a : Option Addr) (n c : Nat) (hn : (n : Int) < 240) (w : World) :
    Calls Try.prog 8 #[.slice a n c] w fun e w' => e = .returned (.tuple #[.agg #[.int .i64 0, .int .u32 0, .int .u32 0, .int .u32 0, .slice none 0 0, .int .i64 0, .int .u32 0, .int .u32 0, .int .u32 0, .int .u32 0, .int .u32 0, .int .u32 0], .int .i64 160]) ∧ Grew w w' := by
  go_enter Try.func8, Try.ntmps8
  go_upto_region 1 with fail
  have hR : Blk (w.alloc (.cells #[.int .i64 0, .int .u32 0, .int .u32 0, .int .u32 0, .slice none 0 0, .int .i64 0, .int .u32 0, .int .u32 0, .int .u32 0, .int .u32 0, .int .u32 0, .int .u32 0] 26)) w.heap.size #[.int .i64 0, .int .u32 0, .int .u32 0, .int .u32 0, .slice none 0 0, .int .i64 0, .int .u32 0, .int .u32 0, .int .u32 0, .int .u32 0, .int .u32 0, .int .u32 0] 26 := Blk.new _ _ _ _ rfl
  have g0 : Grew w (w.alloc (.cells #[.int .i64 0, .int .u32 0, .int .u32 0, .int .u32 0, .slice none 0 0, .int .i64 0, .int .u32 0, .int .u32 0, .int .u32 0, .int .u32 0, .int .u32 0, .int .u32 0] 26)) := (Grew.refl _).alloc _
  generalize (w.alloc (.cells #[.int .i64 0, .int .u32 0, .int .u32 0, .int .u32 0, .slice none 0 0, .int .i64 0, .int .u32 0, .int .u32 0, .int .u32 0, .int .u32 0, .int .u32 0, .int .u32 0] 26)) = w0 at *
  generalize hlR : w.heap.size = R at *
  have hwR : w.heap.size ≤ R := by omega
  have x0 := hR.cell 0
  have x1 := hR.cell 1
  have x2 := hR.cell 2
  have x3 := hR.cell 3
  have x4 := hR.cell 4
  have x5 := hR.cell 5
  have x6 := hR.cell 6
  have x7 := hR.cell 7
  have x8 := hR.cell 8
  have x9 := hR.cell 9
  have x10 := hR.cell 10
  have x11 := hR.cell 11
  have q0 := hR.free 0
  have q1 := hR.free 1
  have q2 := hR.free 2
  have q3 := hR.free 3
  have q4 := hR.free 4
  have q5 := hR.free 5
  have q6 := hR.free 6
  have q7 := hR.free 7
  have q8 := hR.free 8
  have q9 := hR.free 9
  have q10 := hR.free 10
  have q11 := hR.free 11
  go_wp2_with fail
  have E := ((((((((((((hR.set (o := 0) ((.int .i64 0))).set (o := 1) ((.int .u32 0))).set (o := 2) ((.int .u32 0))).set (o := 3) ((.int .u32 0))).set (o := 4) ((.slice none 0 0))).set (o := 5) ((.int .i64 0))).set (o := 6) ((.int .u32 0))).set (o := 7) ((.int .u32 0))).set (o := 8) ((.int .u32 0))).set (o := 9) ((.int .u32 0))).set (o := 10) ((.int .u32 0))).set (o := 11) ((.int .u32 0)))
  have GE := ((((((((((((g0.setCell (b := R) (o := 0) (hwR) ((.int .i64 0))).setCell (b := R) (o := 1) (hwR) ((.int .u32 0))).setCell (b := R) (o := 2) (hwR) ((.int .u32 0))).setCell (b := R) (o := 3) (hwR) ((.int .u32 0))).setCell (b := R) (o := 4) (hwR) ((.slice none 0 0))).setCell (b := R) (o := 5) (hwR) ((.int .i64 0))).setCell (b := R) (o := 6) (hwR) ((.int .u32 0))).setCell (b := R) (o := 7) (hwR) ((.int .u32 0))).setCell (b := R) (o := 8) (hwR) ((.int .u32 0))).setCell (b := R) (o := 9) (hwR) ((.int .u32 0))).setCell (b := R) (o := 10) (hwR) ((.int .u32 0))).setCell (b := R) (o := 11) (hwR) ((.int .u32 0)))
  have e0 := E.cell 0
  have e1 := E.cell 1
  have e2 := E.cell 2
  have e3 := E.cell 3
  have e4 := E.cell 4
  have e5 := E.cell 5
  have e6 := E.cell 6
  have e7 := E.cell 7
  have e8 := E.cell 8
  have e9 := E.cell 9
  have e10 := E.cell 10
  have e11 := E.cell 11
  exact bodyPost_ret (v := .tuple #[.agg #[.int .i64 0, .int .u32 0, .int .u32 0, .int .u32 0, .slice none 0 0, .int .i64 0, .int .u32 0, .int .u32 0, .int .u32 0, .int .u32 0, .int .u32 0, .int .u32 0], .int .i64 160]) (by simp [results, Try.results8, go_sem, e0, e1, e2, e3, e4, e5, e6, e7, e8, e9, e10, e11]) rfl ⟨rfl, GE⟩
set_option maxHeartbeats 4000000 in
theorem get20_0 (a : Option Addr) (n c : Nat) (hn : ¬ (n : Int) < 240) (a8 : Option Addr) (c8 : Nat) {w : World} (hr8 : ∀ w', (Instr.sliceAt 22 (.slice a n c) (some (.int .i64 240)) none none).run Try.prog w' = .ok (.slice a8 (n - 240) c8) w') {F : Int → Option Int} {m0 d : DHR} (HOI : ∀ w', Grew w w' → Calls Try.prog 14 #[.slice a8 (n - 240) c8] w' fun e w'' => ∃ m, e = .returned (.tuple #[m, .bool false]) ∧ OV w'' m F ∧ Grew w' w'') (HMA : ∀ w', Grew w w' → Calls Try.prog 16 #[.slice a n c] w' fun e w'' => ∃ u, e = .returned u ∧ Dh w'' u m0 ∧ Grew w' w'') (HAT : ∀ w' t v, OV w' t F → Dh w' v m0 → Calls Try.prog 15 #[t, v] w' fun e w'' => ∃ u, e = .returned u ∧ Dh w'' u d ∧ Grew w' w'') :
    Calls Try.prog 8 #[.slice a n c] w fun e w' => ∃ u, e = .returned (.tuple #[u, .int .i64 161]) ∧ Dh w' u zDH ∧ Grew w w' := by
  have HOI0 := Lib.hid HOI
  have HMA0 := Lib.hid HMA
  have HAT0 := Lib.hid HAT
  clear HOI HMA HAT
  go_enter Try.func8, Try.ntmps8
  go_upto_region 1 with fail
  have hR : Blk (w.alloc (.cells #[.int .i64 0, .int .u32 0, .int .u32 0, .int .u32 0, .slice none 0 0, .int .i64 0, .int .u32 0, .int .u32 0, .int .u32 0, .int .u32 0, .int .u32 0, .int .u32 0] 26)) w.heap.size #[.int .i64 0, .int .u32 0, .int .u32 0, .int .u32 0, .slice none 0 0, .int .i64 0, .int .u32 0, .int .u32 0, .int .u32 0, .int .u32 0, .int .u32 0, .int .u32 0] 26 := Blk.new _ _ _ _ rfl
  have g0 : Grew w (w.alloc (.cells #[.int .i64 0, .int .u32 0, .int .u32 0, .int .u32 0, .slice none 0 0, .int .i64 0, .int .u32 0, .int .u32 0, .int .u32 0, .int .u32 0, .int .u32 0, .int .u32 0] 26)) := (Grew.refl _).alloc _
  generalize (w.alloc (.cells #[.int .i64 0, .int .u32 0, .int .u32 0, .int .u32 0, .slice none 0 0, .int .i64 0, .int .u32 0, .int .u32 0, .int .u32 0, .int .u32 0, .int .u32 0, .int .u32 0] 26)) = w0 at *
  generalize hlR : w.heap.size = R at *
  have hwR : w.heap.size ≤ R := by omega
  have HR0 := Lib.hid hR
  have HG0 := Lib.hid g0
  clear hR g0
  go_wp2_with fail
  refine (HOI0.out _ HG0.out).mono ?_
  rintro e w1 ⟨m, rfl, hm, g1⟩
  have HM := Lib.hid hm
  have HG1 := Lib.hid (HG0.out.trans g1)
  have HR1 := Lib.hid (HR0.out.grew g1)
  clear hm g1 HR0 HG0
  go_wp2_with fail
  refine (HMA0.out _ HG1.out).mono ?_
  rintro e w2 ⟨u, rfl, hu, g2⟩
  have HU := Lib.hid hu
  have HM2 := Lib.hid (HM.out.grew g2)
  have HG2 := Lib.hid (HG1.out.trans g2)
  have HR2 := Lib.hid (HR1.out.grew g2)
  clear hu g2 HR1 HG1 HM
  go_wp2_with fail
  refine (HAT0.out w2 m u HM2.out HU.out).mono ?_
  rintro e w3 ⟨v3, rfl, hd3, g3⟩
  have HD3 := Lib.hid hd3
  obtain ⟨p1, k1, rfl, _⟩ := hd3.shape
  have HG3 := Lib.hid (HG2.out.trans g3)
  have HR3 := Lib.hid (HR2.out.grew g3)
  clear hd3 g3 HR2 HG2 HM2 HU
  go_upto_region 5 with fail
  have hD : Blk (w3.alloc (.cells #[.int .i64 d.op, .int .u32 d.xid, .int .u32 d.ci, .int .u32 d.yi, .slice p1 d.x.length k1, .int .i64 d.ty, .int .u32 d.wa, .int .u32 d.se, .int .u32 d.le, .int .u32 d.ma, .int .u32 d.ro, .int .u32 d.dn] 26)) w3.heap.size #[.int .i64 d.op, .int .u32 d.xid, .int .u32 d.ci, .int .u32 d.yi, .slice p1 d.x.length k1, .int .i64 d.ty, .int .u32 d.wa, .int .u32 d.se, .int .u32 d.le, .int .u32 d.ma, .int .u32 d.ro, .int .u32 d.dn] 26 := Blk.new _ _ _ _ rfl
  have g4 : Grew w3 (w3.alloc (.cells #[.int .i64 d.op, .int .u32 d.xid, .int .u32 d.ci, .int .u32 d.yi, .slice p1 d.x.length k1, .int .i64 d.ty, .int .u32 d.wa, .int .u32 d.se, .int .u32 d.le, .int .u32 d.ma, .int .u32 d.ro, .int .u32 d.dn] 26)) := (Grew.refl _).alloc _
  generalize (w3.alloc (.cells #[.int .i64 d.op, .int .u32 d.xid, .int .u32 d.ci, .int .u32 d.yi, .slice p1 d.x.length k1, .int .i64 d.ty, .int .u32 d.wa, .int .u32 d.se, .int .u32 d.le, .int .u32 d.ma, .int .u32 d.ro, .int .u32 d.dn] 26)) = w4 at *
  generalize hlD : w3.heap.size = D at *
  have HG4 := Lib.hid (HG3.out.trans g4)
  have HR4 := Lib.hid (HR3.out.grew g4)
  have HD4 := Lib.hid (HD3.out.grew g4)
  have hRD : Hid (R ≠ D) := Lib.hid (by have := HR3.out.lt; omega)
  have HDB := Lib.hid hD
  clear g4 HG3 HR3 HD3
  clear hD
  have hR := HR4.out
  have G := HG4.out
  have x0 := hR.cell 0
  have x1 := hR.cell 1
  have x2 := hR.cell 2
  have x3 := hR.cell 3
  have x4 := hR.cell 4
  have x5 := hR.cell 5
  have x6 := hR.cell 6
  have x7 := hR.cell 7
  have x8 := hR.cell 8
  have x9 := hR.cell 9
  have x10 := hR.cell 10
  have x11 := hR.cell 11
  have q0 := hR.free 0
  have q1 := hR.free 1
  have q2 := hR.free 2
  have q3 := hR.free 3
  have q4 := hR.free 4
  have q5 := hR.free 5
  have q6 := hR.free 6
  have q7 := hR.free 7
  have q8 := hR.free 8
  have q9 := hR.free 9
  have q10 := hR.free 10
  have q11 := hR.free 11
  go_wp2_with fail
  have E := ((((((((((((hR.set (o := 0) ((.int .i64 0))).set (o := 1) ((.int .u32 0))).set (o := 2) ((.int .u32 0))).set (o := 3) ((.int .u32 0))).set (o := 4) ((.slice none 0 0))).set (o := 5) ((.int .i64 0))).set (o := 6) ((.int .u32 0))).set (o := 7) ((.int .u32 0))).set (o := 8) ((.int .u32 0))).set (o := 9) ((.int .u32 0))).set (o := 10) ((.int .u32 0))).set (o := 11) ((.int .u32 0)))
  have GE := ((((((((((((G.setCell (b := R) (o := 0) (hwR) ((.int .i64 0))).setCell (b := R) (o := 1) (hwR) ((.int .u32 0))).setCell (b := R) (o := 2) (hwR) ((.int .u32 0))).setCell (b := R) (o := 3) (hwR) ((.int .u32 0))).setCell (b := R) (o := 4) (hwR) ((.slice none 0 0))).setCell (b := R) (o := 5) (hwR) ((.int .i64 0))).setCell (b := R) (o := 6) (hwR) ((.int .u32 0))).setCell (b := R) (o := 7) (hwR) ((.int .u32 0))).setCell (b := R) (o := 8) (hwR) ((.int .u32 0))).setCell (b := R) (o := 9) (hwR) ((.int .u32 0))).setCell (b := R) (o := 10) (hwR) ((.int .u32 0))).setCell (b := R) (o := 11) (hwR) ((.int .u32 0)))
  have KK := ((((((((((((BufsKept.box (o := 0) hR (by simp [noU8]) ((.int .i64 0))).trans (BufsKept.box (o := 1) (hR.set (o := 0) ((.int .i64 0))) (by simp [noU8]) ((.int .u32 0)))).trans (BufsKept.box (o := 2) ((hR.set (o := 0) ((.int .i64 0))).set (o := 1) ((.int .u32 0))) (by simp [noU8]) ((.int .u32 0)))).trans (BufsKept.box (o := 3) (((hR.set (o := 0) ((.int .i64 0))).set (o := 1) ((.int .u32 0))).set (o := 2) ((.int .u32 0))) (by simp [noU8]) ((.int .u32 0)))).trans (BufsKept.box (o := 4) ((((hR.set (o := 0) ((.int .i64 0))).set (o := 1) ((.int .u32 0))).set (o := 2) ((.int .u32 0))).set (o := 3) ((.int .u32 0))) (by simp [noU8]) ((.slice none 0 0)))).trans (BufsKept.box (o := 5) (((((hR.set (o := 0) ((.int .i64 0))).set (o := 1) ((.int .u32 0))).set (o := 2) ((.int .u32 0))).set (o := 3) ((.int .u32 0))).set (o := 4) ((.slice none 0 0))) (by simp [noU8]) ((.int .i64 0)))).trans (BufsKept.box (o := 6) ((((((hR.set (o := 0) ((.int .i64 0))).set (o := 1) ((.int .u32 0))).set (o := 2) ((.int .u32 0))).set (o := 3) ((.int .u32 0))).set (o := 4) ((.slice none 0 0))).set (o := 5) ((.int .i64 0))) (by simp [noU8]) ((.int .u32 0)))).trans (BufsKept.box (o := 7) (((((((hR.set (o := 0) ((.int .i64 0))).set (o := 1) ((.int .u32 0))).set (o := 2) ((.int .u32 0))).set (o := 3) ((.int .u32 0))).set (o := 4) ((.slice none 0 0))).set (o := 5) ((.int .i64 0))).set (o := 6) ((.int .u32 0))) (by simp [noU8]) ((.int .u32 0)))).trans (BufsKept.box (o := 8) ((((((((hR.set (o := 0) ((.int .i64 0))).set (o := 1) ((.int .u32 0))).set (o := 2) ((.int .u32 0))).set (o := 3) ((.int .u32 0))).set (o := 4) ((.slice none 0 0))).set (o := 5) ((.int .i64 0))).set (o := 6) ((.int .u32 0))).set (o := 7) ((.int .u32 0))) (by simp [noU8]) ((.int .u32 0)))).trans (BufsKept.box (o := 9) (((((((((hR.set (o := 0) ((.int .i64 0))).set (o := 1) ((.int .u32 0))).set (o := 2) ((.int .u32 0))).set (o := 3) ((.int .u32 0))).set (o := 4) ((.slice none 0 0))).set (o := 5) ((.int .i64 0))).set (o := 6) ((.int .u32 0))).set (o := 7) ((.int .u32 0))).set (o := 8) ((.int .u32 0))) (by simp [noU8]) ((.int .u32 0)))).trans (BufsKept.box (o := 10) ((((((((((hR.set (o := 0) ((.int .i64 0))).set (o := 1) ((.int .u32 0))).set (o := 2) ((.int .u32 0))).set (o := 3) ((.int .u32 0))).set (o := 4) ((.slice none 0 0))).set (o := 5) ((.int .i64 0))).set (o := 6) ((.int .u32 0))).set (o := 7) ((.int .u32 0))).set (o := 8) ((.int .u32 0))).set (o := 9) ((.int .u32 0))) (by simp [noU8]) ((.int .u32 0)))).trans (BufsKept.box (o := 11) (((((((((((hR.set (o := 0) ((.int .i64 0))).set (o := 1) ((.int .u32 0))).set (o := 2) ((.int .u32 0))).set (o := 3) ((.int .u32 0))).set (o := 4) ((.slice none 0 0))).set (o := 5) ((.int .i64 0))).set (o := 6) ((.int .u32 0))).set (o := 7) ((.int .u32 0))).set (o := 8) ((.int .u32 0))).set (o := 9) ((.int .u32 0))).set (o := 10) ((.int .u32 0))) (by simp [noU8]) ((.int .u32 0))))
  have e0 := E.cell 0
  have e1 := E.cell 1
  have e2 := E.cell 2
  have e3 := E.cell 3
  have e4 := E.cell 4
  have e5 := E.cell 5
  have e6 := E.cell 6
  have e7 := E.cell 7
  have e8 := E.cell 8
  have e9 := E.cell 9
  have e10 := E.cell 10
  have e11 := E.cell 11
  exact bodyPost_ret (v := .tuple #[.agg #[.int .i64 0, .int .u32 0, .int .u32 0, .int .u32 0, .slice none 0 0, .int .i64 0, .int .u32 0, .int .u32 0, .int .u32 0, .int .u32 0, .int .u32 0, .int .u32 0], .int .i64 161]) (by simp [results, Try.results8, go_sem, e0, e1, e2, e3, e4, e5, e6, e7, e8, e9, e10, e11]) rfl ⟨_, rfl, Dh.zero _, GE⟩
set_option maxHeartbeats 4000000 in
theorem get20_1 (a : Option Addr) (n c : Nat) (hn : ¬ (n : Int) < 240) (a8 : Option Addr) (c8 : Nat) {w : World} (hr8 : ∀ w', (Instr.sliceAt 22 (.slice a n c) (some (.int .i64 240)) none none).run Try.prog w' = .ok (.slice a8 (n - 240) c8) w') {F : Int → Option Int} {m0 d : DHR} (HOI : ∀ w', Grew w w' → Calls Try.prog 14 #[.slice a8 (n - 240) c8] w' fun e w'' => ∃ m, e = .returned (.tuple #[m, .bool true]) ∧ OV w'' m F ∧ Grew w' w'') (HMA : ∀ w', Grew w w' → Calls Try.prog 16 #[.slice a n c] w' fun e w'' => ∃ u, e = .returned u ∧ Dh w'' u m0 ∧ Grew w' w'') (HAT : ∀ w' t v, OV w' t F → Dh w' v m0 → Calls Try.prog 15 #[t, v] w' fun e w'' => ∃ u, e = .returned u ∧ Dh w'' u d ∧ Grew w' w'') (HIH : ∀ w', Grew w w' → Calls Try.prog 17 #[.slice a n c] w' fun e w'' => e = .returned (.bool false) ∧ w'' = w') :
    Calls Try.prog 8 #[.slice a n c] w fun e w' => ∃ u, e = .returned (.tuple #[u, .int .i64 161]) ∧ Dh w' u zDH ∧ Grew w w' := by
  have HOI0 := Lib.hid HOI
  have HMA0 := Lib.hid HMA
  have HAT0 := Lib.hid HAT
  have HIH0 := Lib.hid HIH
  clear HIH
  clear HOI HMA HAT
  go_enter Try.func8, Try.ntmps8
  go_upto_region 1 with fail
  have hR : Blk (w.alloc (.cells #[.int .i64 0, .int .u32 0, .int .u32 0, .int .u32 0, .slice none 0 0, .int .i64 0, .int .u32 0, .int .u32 0, .int .u32 0, .int .u32 0, .int .u32 0, .int .u32 0] 26)) w.heap.size #[.int .i64 0, .int .u32 0, .int .u32 0, .int .u32 0, .slice none 0 0, .int .i64 0, .int .u32 0, .int .u32 0, .int .u32 0, .int .u32 0, .int .u32 0, .int .u32 0] 26 := Blk.new _ _ _ _ rfl
  have g0 : Grew w (w.alloc (.cells #[.int .i64 0, .int .u32 0, .int .u32 0, .int .u32 0, .slice none 0 0, .int .i64 0, .int .u32 0, .int .u32 0, .int .u32 0, .int .u32 0, .int .u32 0, .int .u32 0] 26)) := (Grew.refl _).alloc _
  generalize (w.alloc (.cells #[.int .i64 0, .int .u32 0, .int .u32 0, .int .u32 0, .slice none 0 0, .int .i64 0, .int .u32 0, .int .u32 0, .int .u32 0, .int .u32 0, .int .u32 0, .int .u32 0] 26)) = w0 at *
  generalize hlR : w.heap.size = R at *
  have hwR : w.heap.size ≤ R := by omega
  have HR0 := Lib.hid hR
  have HG0 := Lib.hid g0
  clear hR g0
  go_wp2_with fail
  refine (HOI0.out _ HG0.out).mono ?_
  rintro e w1 ⟨m, rfl, hm, g1⟩
  have HM := Lib.hid hm
  have HG1 := Lib.hid (HG0.out.trans g1)
  have HR1 := Lib.hid (HR0.out.grew g1)
  clear hm g1 HR0 HG0
  go_wp2_with fail
  refine (HMA0.out _ HG1.out).mono ?_
  rintro e w2 ⟨u, rfl, hu, g2⟩
  have HU := Lib.hid hu
  have HM2 := Lib.hid (HM.out.grew g2)
  have HG2 := Lib.hid (HG1.out.trans g2)
  have HR2 := Lib.hid (HR1.out.grew g2)
  clear hu g2 HR1 HG1 HM
  go_wp2_with fail
  refine (HAT0.out w2 m u HM2.out HU.out).mono ?_
  rintro e w3 ⟨v3, rfl, hd3, g3⟩
  have HD3 := Lib.hid hd3
  obtain ⟨p1, k1, rfl, _⟩ := hd3.shape
  have HG3 := Lib.hid (HG2.out.trans g3)
  have HR3 := Lib.hid (HR2.out.grew g3)
  clear hd3 g3 HR2 HG2 HM2 HU
  go_upto_region 5 with fail
  have hD : Blk (w3.alloc (.cells #[.int .i64 d.op, .int .u32 d.xid, .int .u32 d.ci, .int .u32 d.yi, .slice p1 d.x.length k1, .int .i64 d.ty, .int .u32 d.wa, .int .u32 d.se, .int .u32 d.le, .int .u32 d.ma, .int .u32 d.ro, .int .u32 d.dn] 26)) w3.heap.size #[.int .i64 d.op, .int .u32 d.xid, .int .u32 d.ci, .int .u32 d.yi, .slice p1 d.x.length k1, .int .i64 d.ty, .int .u32 d.wa, .int .u32 d.se, .int .u32 d.le, .int .u32 d.ma, .int .u32 d.ro, .int .u32 d.dn] 26 := Blk.new _ _ _ _ rfl
  have g4 : Grew w3 (w3.alloc (.cells #[.int .i64 d.op, .int .u32 d.xid, .int .u32 d.ci, .int .u32 d.yi, .slice p1 d.x.length k1, .int .i64 d.ty, .int .u32 d.wa, .int .u32 d.se, .int .u32 d.le, .int .u32 d.ma, .int .u32 d.ro, .int .u32 d.dn] 26)) := (Grew.refl _).alloc _
  generalize (w3.alloc (.cells #[.int .i64 d.op, .int .u32 d.xid, .int .u32 d.ci, .int .u32 d.yi, .slice p1 d.x.length k1, .int .i64 d.ty, .int .u32 d.wa, .int .u32 d.se, .int .u32 d.le, .int .u32 d.ma, .int .u32 d.ro, .int .u32 d.dn] 26)) = w4 at *
  generalize hlD : w3.heap.size = D at *
  have HG4 := Lib.hid (HG3.out.trans g4)
  have HR4 := Lib.hid (HR3.out.grew g4)
  have HD4 := Lib.hid (HD3.out.grew g4)
  have hRD : Hid (R ≠ D) := Lib.hid (by have := HR3.out.lt; omega)
  have HDB := Lib.hid hD
  clear g4 HG3 HR3 HD3
  clear hD
  go_wp2_with fail
  refine (HIH0.out _ HG4.out).mono ?_
  rintro e w5 ⟨rfl, h5⟩
  obtain rfl := h5.symm
  have hR := HR4.out
  have G := HG4.out
  have x0 := hR.cell 0
  have x1 := hR.cell 1
  have x2 := hR.cell 2
  have x3 := hR.cell 3
  have x4 := hR.cell 4
  have x5 := hR.cell 5
  have x6 := hR.cell 6
  have x7 := hR.cell 7
  have x8 := hR.cell 8
  have x9 := hR.cell 9
  have x10 := hR.cell 10
  have x11 := hR.cell 11
  have q0 := hR.free 0
  have q1 := hR.free 1
  have q2 := hR.free 2
  have q3 := hR.free 3
  have q4 := hR.free 4
  have q5 := hR.free 5
  have q6 := hR.free 6
  have q7 := hR.free 7
  have q8 := hR.free 8
  have q9 := hR.free 9
  have q10 := hR.free 10
  have q11 := hR.free 11
  go_wp2_with fail
  have E := ((((((((((((hR.set (o := 0) ((.int .i64 0))).set (o := 1) ((.int .u32 0))).set (o := 2) ((.int .u32 0))).set (o := 3) ((.int .u32 0))).set (o := 4) ((.slice none 0 0))).set (o := 5) ((.int .i64 0))).set (o := 6) ((.int .u32 0))).set (o := 7) ((.int .u32 0))).set (o := 8) ((.int .u32 0))).set (o := 9) ((.int .u32 0))).set (o := 10) ((.int .u32 0))).set (o := 11) ((.int .u32 0)))
  have GE := ((((((((((((G.setCell (b := R) (o := 0) (hwR) ((.int .i64 0))).setCell (b := R) (o := 1) (hwR) ((.int .u32 0))).setCell (b := R) (o := 2) (hwR) ((.int .u32 0))).setCell (b := R) (o := 3) (hwR) ((.int .u32 0))).setCell (b := R) (o := 4) (hwR) ((.slice none 0 0))).setCell (b := R) (o := 5) (hwR) ((.int .i64 0))).setCell (b := R) (o := 6) (hwR) ((.int .u32 0))).setCell (b := R) (o := 7) (hwR) ((.int .u32 0))).setCell (b := R) (o := 8) (hwR) ((.int .u32 0))).setCell (b := R) (o := 9) (hwR) ((.int .u32 0))).setCell (b := R) (o := 10) (hwR) ((.int .u32 0))).setCell (b := R) (o := 11) (hwR) ((.int .u32 0)))
  have KK := ((((((((((((BufsKept.box (o := 0) hR (by simp [noU8]) ((.int .i64 0))).trans (BufsKept.box (o := 1) (hR.set (o := 0) ((.int .i64 0))) (by simp [noU8]) ((.int .u32 0)))).trans (BufsKept.box (o := 2) ((hR.set (o := 0) ((.int .i64 0))).set (o := 1) ((.int .u32 0))) (by simp [noU8]) ((.int .u32 0)))).trans (BufsKept.box (o := 3) (((hR.set (o := 0) ((.int .i64 0))).set (o := 1) ((.int .u32 0))).set (o := 2) ((.int .u32 0))) (by simp [noU8]) ((.int .u32 0)))).trans (BufsKept.box (o := 4) ((((hR.set (o := 0) ((.int .i64 0))).set (o := 1) ((.int .u32 0))).set (o := 2) ((.int .u32 0))).set (o := 3) ((.int .u32 0))) (by simp [noU8]) ((.slice none 0 0)))).trans (BufsKept.box (o := 5) (((((hR.set (o := 0) ((.int .i64 0))).set (o := 1) ((.int .u32 0))).set (o := 2) ((.int .u32 0))).set (o := 3) ((.int .u32 0))).set (o := 4) ((.slice none 0 0))) (by simp [noU8]) ((.int .i64 0)))).trans (BufsKept.box (o := 6) ((((((hR.set (o := 0) ((.int .i64 0))).set (o := 1) ((.int .u32 0))).set (o := 2) ((.int .u32 0))).set (o := 3) ((.int .u32 0))).set (o := 4) ((.slice none 0 0))).set (o := 5) ((.int .i64 0))) (by simp [noU8]) ((.int .u32 0)))).trans (BufsKept.box (o := 7) (((((((hR.set (o := 0) ((.int .i64 0))).set (o := 1) ((.int .u32 0))).set (o := 2) ((.int .u32 0))).set (o := 3) ((.int .u32 0))).set (o := 4) ((.slice none 0 0))).set (o := 5) ((.int .i64 0))).set (o := 6) ((.int .u32 0))) (by simp [noU8]) ((.int .u32 0)))).trans (BufsKept.box (o := 8) ((((((((hR.set (o := 0) ((.int .i64 0))).set (o := 1) ((.int .u32 0))).set (o := 2) ((.int .u32 0))).set (o := 3) ((.int .u32 0))).set (o := 4) ((.slice none 0 0))).set (o := 5) ((.int .i64 0))).set (o := 6) ((.int .u32 0))).set (o := 7) ((.int .u32 0))) (by simp [noU8]) ((.int .u32 0)))).trans (BufsKept.box (o := 9) (((((((((hR.set (o := 0) ((.int .i64 0))).set (o := 1) ((.int .u32 0))).set (o := 2) ((.int .u32 0))).set (o := 3) ((.int .u32 0))).set (o := 4) ((.slice none 0 0))).set (o := 5) ((.int .i64 0))).set (o := 6) ((.int .u32 0))).set (o := 7) ((.int .u32 0))).set (o := 8) ((.int .u32 0))) (by simp [noU8]) ((.int .u32 0)))).trans (BufsKept.box (o := 10) ((((((((((hR.set (o := 0) ((.int .i64 0))).set (o := 1) ((.int .u32 0))).set (o := 2) ((.int .u32 0))).set (o := 3) ((.int .u32 0))).set (o := 4) ((.slice none 0 0))).set (o := 5) ((.int .i64 0))).set (o := 6) ((.int .u32 0))).set (o := 7) ((.int .u32 0))).set (o := 8) ((.int .u32 0))).set (o := 9) ((.int .u32 0))) (by simp [noU8]) ((.int .u32 0)))).trans (BufsKept.box (o := 11) (((((((((((hR.set (o := 0) ((.int .i64 0))).set (o := 1) ((.int .u32 0))).set (o := 2) ((.int .u32 0))).set (o := 3) ((.int .u32 0))).set (o := 4) ((.slice none 0 0))).set (o := 5) ((.int .i64 0))).set (o := 6) ((.int .u32 0))).set (o := 7) ((.int .u32 0))).set (o := 8) ((.int .u32 0))).set (o := 9) ((.int .u32 0))).set (o := 10) ((.int .u32 0))) (by simp [noU8]) ((.int .u32 0))))
  have e0 := E.cell 0
  have e1 := E.cell 1
  have e2 := E.cell 2
  have e3 := E.cell 3
  have e4 := E.cell 4
  have e5 := E.cell 5
  have e6 := E.cell 6
  have e7 := E.cell 7
  have e8 := E.cell 8
  have e9 := E.cell 9
  have e10 := E.cell 10
  have e11 := E.cell 11
  exact bodyPost_ret (v := .tuple #[.agg #[.int .i64 0, .int .u32 0, .int .u32 0, .int .u32 0, .slice none 0 0, .int .i64 0, .int .u32 0, .int .u32 0, .int .u32 0, .int .u32 0, .int .u32 0, .int .u32 0], .int .i64 161]) (by simp [results, Try.results8, go_sem, e0, e1, e2, e3, e4, e5, e6, e7, e8, e9, e10, e11]) rfl ⟨_, rfl, Dh.zero _, GE⟩
set_option maxHeartbeats 4000000 in
theorem get20_2 (a : Option Addr) (n c : Nat) (hn : ¬ (n : Int) < 240) (a8 : Option Addr) (c8 : Nat) {w : World} (hr8 : ∀ w', (Instr.sliceAt 22 (.slice a n c) (some (.int .i64 240)) none none).run Try.prog w' = .ok (.slice a8 (n - 240) c8) w') {F : Int → Option Int} {m0 d : DHR} (HOI : ∀ w', Grew w w' → Calls Try.prog 14 #[.slice a8 (n - 240) c8] w' fun e w'' => ∃ m, e = .returned (.tuple #[m, .bool true]) ∧ OV w'' m F ∧ Grew w' w'') (HMA : ∀ w', Grew w w' → Calls Try.prog 16 #[.slice a n c] w' fun e w'' => ∃ u, e = .returned u ∧ Dh w'' u m0 ∧ Grew w' w'') (HAT : ∀ w' t v, OV w' t F → Dh w' v m0 → Calls Try.prog 15 #[t, v] w' fun e w'' => ∃ u, e = .returned u ∧ Dh w'' u d ∧ Grew w' w'') (HIH : ∀ w', Grew w w' → Calls Try.prog 17 #[.slice a n c] w' fun e w'' => e = .returned (.bool true) ∧ w'' = w') (him : okDH d = false) :
    Calls Try.prog 8 #[.slice a n c] w fun e w' => ∃ u, e = .returned (.tuple #[u, .int .i64 161]) ∧ Dh w' u zDH ∧ Grew w w' := by
  have HOI0 := Lib.hid HOI
  have HMA0 := Lib.hid HMA
  have HAT0 := Lib.hid HAT
  have HIH0 := Lib.hid HIH
  clear HIH
  have HIM := Lib.hid him
  clear him
  clear HOI HMA HAT
  go_enter Try.func8, Try.ntmps8
  go_upto_region 1 with fail
  have hR : Blk (w.alloc (.cells #[.int .i64 0, .int .u32 0, .int .u32 0, .int .u32 0, .slice none 0 0, .int .i64 0, .int .u32 0, .int .u32 0, .int .u32 0, .int .u32 0, .int .u32 0, .int .u32 0] 26)) w.heap.size #[.int .i64 0, .int .u32 0, .int .u32 0, .int .u32 0, .slice none 0 0, .int .i64 0, .int .u32 0, .int .u32 0, .int .u32 0, .int .u32 0, .int .u32 0, .int .u32 0] 26 := Blk.new _ _ _ _ rfl
  have g0 : Grew w (w.alloc (.cells #[.int .i64 0, .int .u32 0, .int .u32 0, .int .u32 0, .slice none 0 0, .int .i64 0, .int .u32 0, .int .u32 0, .int .u32 0, .int .u32 0, .int .u32 0, .int .u32 0] 26)) := (Grew.refl _).alloc _
  generalize (w.alloc (.cells #[.int .i64 0, .int .u32 0, .int .u32 0, .int .u32 0, .slice none 0 0, .int .i64 0, .int .u32 0, .int .u32 0, .int .u32 0, .int .u32 0, .int .u32 0, .int .u32 0] 26)) = w0 at *
  generalize hlR : w.heap.size = R at *
  have hwR : w.heap.size ≤ R := by omega
  have HR0 := Lib.hid hR
  have HG0 := Lib.hid g0
  clear hR g0
  go_wp2_with fail
  refine (HOI0.out _ HG0.out).mono ?_
  rintro e w1 ⟨m, rfl, hm, g1⟩
  have HM := Lib.hid hm
  have HG1 := Lib.hid (HG0.out.trans g1)
  have HR1 := Lib.hid (HR0.out.grew g1)
  clear hm g1 HR0 HG0
  go_wp2_with fail
  refine (HMA0.out _ HG1.out).mono ?_
  rintro e w2 ⟨u, rfl, hu, g2⟩
  have HU := Lib.hid hu
  have HM2 := Lib.hid (HM.out.grew g2)
  have HG2 := Lib.hid (HG1.out.trans g2)
  have HR2 := Lib.hid (HR1.out.grew g2)
  clear hu g2 HR1 HG1 HM
  go_wp2_with fail
  refine (HAT0.out w2 m u HM2.out HU.out).mono ?_
  rintro e w3 ⟨v3, rfl, hd3, g3⟩
  have HD3 := Lib.hid hd3
  obtain ⟨p1, k1, rfl, _⟩ := hd3.shape
  have HG3 := Lib.hid (HG2.out.trans g3)
  have HR3 := Lib.hid (HR2.out.grew g3)
  clear hd3 g3 HR2 HG2 HM2 HU
  go_upto_region 5 with fail
  have hD : Blk (w3.alloc (.cells #[.int .i64 d.op, .int .u32 d.xid, .int .u32 d.ci, .int .u32 d.yi, .slice p1 d.x.length k1, .int .i64 d.ty, .int .u32 d.wa, .int .u32 d.se, .int .u32 d.le, .int .u32 d.ma, .int .u32 d.ro, .int .u32 d.dn] 26)) w3.heap.size #[.int .i64 d.op, .int .u32 d.xid, .int .u32 d.ci, .int .u32 d.yi, .slice p1 d.x.length k1, .int .i64 d.ty, .int .u32 d.wa, .int .u32 d.se, .int .u32 d.le, .int .u32 d.ma, .int .u32 d.ro, .int .u32 d.dn] 26 := Blk.new _ _ _ _ rfl
  have g4 : Grew w3 (w3.alloc (.cells #[.int .i64 d.op, .int .u32 d.xid, .int .u32 d.ci, .int .u32 d.yi, .slice p1 d.x.length k1, .int .i64 d.ty, .int .u32 d.wa, .int .u32 d.se, .int .u32 d.le, .int .u32 d.ma, .int .u32 d.ro, .int .u32 d.dn] 26)) := (Grew.refl _).alloc _
  generalize (w3.alloc (.cells #[.int .i64 d.op, .int .u32 d.xid, .int .u32 d.ci, .int .u32 d.yi, .slice p1 d.x.length k1, .int .i64 d.ty, .int .u32 d.wa, .int .u32 d.se, .int .u32 d.le, .int .u32 d.ma, .int .u32 d.ro, .int .u32 d.dn] 26)) = w4 at *
  generalize hlD : w3.heap.size = D at *
  have HG4 := Lib.hid (HG3.out.trans g4)
  have HR4 := Lib.hid (HR3.out.grew g4)
  have HD4 := Lib.hid (HD3.out.grew g4)
  have hRD : Hid (R ≠ D) := Lib.hid (by have := HR3.out.lt; omega)
  have HDB := Lib.hid hD
  clear g4 HG3 HR3 HD3
  have y0 := HDB.out.cell 0
  have y1 := HDB.out.cell 1
  have y2 := HDB.out.cell 2
  have y3 := HDB.out.cell 3
  have y4 := HDB.out.cell 4
  have y5 := HDB.out.cell 5
  have y6 := HDB.out.cell 6
  have y7 := HDB.out.cell 7
  have y8 := HDB.out.cell 8
  have y9 := HDB.out.cell 9
  have y10 := HDB.out.cell 10
  have y11 := HDB.out.cell 11
  clear hD
  go_wp2_with fail
  refine (HIH0.out _ HG4.out).mono ?_
  rintro e w5 ⟨rfl, h5⟩
  obtain rfl := h5.symm
  go_wp2_with fail
  refine (isMsg_c HD4.out).mono ?_
  rintro e w6 ⟨rfl, g6⟩
  rw [HIM.out]
  have HG6 := Lib.hid (HG4.out.trans g6)
  have HR6 := Lib.hid (HR4.out.grew g6)
  have HDB6 := Lib.hid (HDB.out.grew g6)
  have HD6 := Lib.hid (HD4.out.grew g6)
  clear g6 HG4 HR4 HDB HD4 y0 y1 y2 y3 y4 y5 y6 y7 y8 y9 y10 y11
  have hR := HR6.out
  have G := HG6.out
  have x0 := hR.cell 0
  have x1 := hR.cell 1
  have x2 := hR.cell 2
  have x3 := hR.cell 3
  have x4 := hR.cell 4
  have x5 := hR.cell 5
  have x6 := hR.cell 6
  have x7 := hR.cell 7
  have x8 := hR.cell 8
  have x9 := hR.cell 9
  have x10 := hR.cell 10
  have x11 := hR.cell 11
  have q0 := hR.free 0
  have q1 := hR.free 1
  have q2 := hR.free 2
  have q3 := hR.free 3
  have q4 := hR.free 4
  have q5 := hR.free 5
  have q6 := hR.free 6
  have q7 := hR.free 7
  have q8 := hR.free 8
  have q9 := hR.free 9
  have q10 := hR.free 10
  have q11 := hR.free 11
  go_wp2_with fail
  have E := ((((((((((((hR.set (o := 0) ((.int .i64 0))).set (o := 1) ((.int .u32 0))).set (o := 2) ((.int .u32 0))).set (o := 3) ((.int .u32 0))).set (o := 4) ((.slice none 0 0))).set (o := 5) ((.int .i64 0))).set (o := 6) ((.int .u32 0))).set (o := 7) ((.int .u32 0))).set (o := 8) ((.int .u32 0))).set (o := 9) ((.int .u32 0))).set (o := 10) ((.int .u32 0))).set (o := 11) ((.int .u32 0)))
  have GE := ((((((((((((G.setCell (b := R) (o := 0) (hwR) ((.int .i64 0))).setCell (b := R) (o := 1) (hwR) ((.int .u32 0))).setCell (b := R) (o := 2) (hwR) ((.int .u32 0))).setCell (b := R) (o := 3) (hwR) ((.int .u32 0))).setCell (b := R) (o := 4) (hwR) ((.slice none 0 0))).setCell (b := R) (o := 5) (hwR) ((.int .i64 0))).setCell (b := R) (o := 6) (hwR) ((.int .u32 0))).setCell (b := R) (o := 7) (hwR) ((.int .u32 0))).setCell (b := R) (o := 8) (hwR) ((.int .u32 0))).setCell (b := R) (o := 9) (hwR) ((.int .u32 0))).setCell (b := R) (o := 10) (hwR) ((.int .u32 0))).setCell (b := R) (o := 11) (hwR) ((.int .u32 0)))
  have KK := ((((((((((((BufsKept.box (o := 0) hR (by simp [noU8]) ((.int .i64 0))).trans (BufsKept.box (o := 1) (hR.set (o := 0) ((.int .i64 0))) (by simp [noU8]) ((.int .u32 0)))).trans (BufsKept.box (o := 2) ((hR.set (o := 0) ((.int .i64 0))).set (o := 1) ((.int .u32 0))) (by simp [noU8]) ((.int .u32 0)))).trans (BufsKept.box (o := 3) (((hR.set (o := 0) ((.int .i64 0))).set (o := 1) ((.int .u32 0))).set (o := 2) ((.int .u32 0))) (by simp [noU8]) ((.int .u32 0)))).trans (BufsKept.box (o := 4) ((((hR.set (o := 0) ((.int .i64 0))).set (o := 1) ((.int .u32 0))).set (o := 2) ((.int .u32 0))).set (o := 3) ((.int .u32 0))) (by simp [noU8]) ((.slice none 0 0)))).trans (BufsKept.box (o := 5) (((((hR.set (o := 0) ((.int .i64 0))).set (o := 1) ((.int .u32 0))).set (o := 2) ((.int .u32 0))).set (o := 3) ((.int .u32 0))).set (o := 4) ((.slice none 0 0))) (by simp [noU8]) ((.int .i64 0)))).trans (BufsKept.box (o := 6) ((((((hR.set (o := 0) ((.int .i64 0))).set (o := 1) ((.int .u32 0))).set (o := 2) ((.int .u32 0))).set (o := 3) ((.int .u32 0))).set (o := 4) ((.slice none 0 0))).set (o := 5) ((.int .i64 0))) (by simp [noU8]) ((.int .u32 0)))).trans (BufsKept.box (o := 7) (((((((hR.set (o := 0) ((.int .i64 0))).set (o := 1) ((.int .u32 0))).set (o := 2) ((.int .u32 0))).set (o := 3) ((.int .u32 0))).set (o := 4) ((.slice none 0 0))).set (o := 5) ((.int .i64 0))).set (o := 6) ((.int .u32 0))) (by simp [noU8]) ((.int .u32 0)))).trans (BufsKept.box (o := 8) ((((((((hR.set (o := 0) ((.int .i64 0))).set (o := 1) ((.int .u32 0))).set (o := 2) ((.int .u32 0))).set (o := 3) ((.int .u32 0))).set (o := 4) ((.slice none 0 0))).set (o := 5) ((.int .i64 0))).set (o := 6) ((.int .u32 0))).set (o := 7) ((.int .u32 0))) (by simp [noU8]) ((.int .u32 0)))).trans (BufsKept.box (o := 9) (((((((((hR.set (o := 0) ((.int .i64 0))).set (o := 1) ((.int .u32 0))).set (o := 2) ((.int .u32 0))).set (o := 3) ((.int .u32 0))).set (o := 4) ((.slice none 0 0))).set (o := 5) ((.int .i64 0))).set (o := 6) ((.int .u32 0))).set (o := 7) ((.int .u32 0))).set (o := 8) ((.int .u32 0))) (by simp [noU8]) ((.int .u32 0)))).trans (BufsKept.box (o := 10) ((((((((((hR.set (o := 0) ((.int .i64 0))).set (o := 1) ((.int .u32 0))).set (o := 2) ((.int .u32 0))).set (o := 3) ((.int .u32 0))).set (o := 4) ((.slice none 0 0))).set (o := 5) ((.int .i64 0))).set (o := 6) ((.int .u32 0))).set (o := 7) ((.int .u32 0))).set (o := 8) ((.int .u32 0))).set (o := 9) ((.int .u32 0))) (by simp [noU8]) ((.int .u32 0)))).trans (BufsKept.box (o := 11) (((((((((((hR.set (o := 0) ((.int .i64 0))).set (o := 1) ((.int .u32 0))).set (o := 2) ((.int .u32 0))).set (o := 3) ((.int .u32 0))).set (o := 4) ((.slice none 0 0))).set (o := 5) ((.int .i64 0))).set (o := 6) ((.int .u32 0))).set (o := 7) ((.int .u32 0))).set (o := 8) ((.int .u32 0))).set (o := 9) ((.int .u32 0))).set (o := 10) ((.int .u32 0))) (by simp [noU8]) ((.int .u32 0))))
  have e0 := E.cell 0
  have e1 := E.cell 1
  have e2 := E.cell 2
  have e3 := E.cell 3
  have e4 := E.cell 4
  have e5 := E.cell 5
  have e6 := E.cell 6
  have e7 := E.cell 7
  have e8 := E.cell 8
  have e9 := E.cell 9
  have e10 := E.cell 10
  have e11 := E.cell 11
  exact bodyPost_ret (v := .tuple #[.agg #[.int .i64 0, .int .u32 0, .int .u32 0, .int .u32 0, .slice none 0 0, .int .i64 0, .int .u32 0, .int .u32 0, .int .u32 0, .int .u32 0, .int .u32 0, .int .u32 0], .int .i64 161]) (by simp [results, Try.results8, go_sem, e0, e1, e2, e3, e4, e5, e6, e7, e8, e9, e10, e11]) rfl ⟨_, rfl, Dh.zero _, GE⟩
set_option maxHeartbeats 4000000 in
theorem get20_3 (a : Option Addr) (n c : Nat) (hn : ¬ (n : Int) < 240) (a8 : Option Addr) (c8 : Nat) {w : World} (hr8 : ∀ w', (Instr.sliceAt 22 (.slice a n c) (some (.int .i64 240)) none none).run Try.prog w' = .ok (.slice a8 (n - 240) c8) w') {F : Int → Option Int} {m0 d : DHR} (HOI : ∀ w', Grew w w' → Calls Try.prog 14 #[.slice a8 (n - 240) c8] w' fun e w'' => ∃ m, e = .returned (.tuple #[m, .bool true]) ∧ OV w'' m F ∧ Grew w' w'') (HMA : ∀ w', Grew w w' → Calls Try.prog 16 #[.slice a n c] w' fun e w'' => ∃ u, e = .returned u ∧ Dh w'' u m0 ∧ Grew w' w'') (HAT : ∀ w' t v, OV w' t F → Dh w' v m0 → Calls Try.prog 15 #[t, v] w' fun e w'' => ∃ u, e = .returned u ∧ Dh w'' u d ∧ Grew w' w'') (HIH : ∀ w', Grew w w' → Calls Try.prog 17 #[.slice a n c] w' fun e w'' => e = .returned (.bool true) ∧ w'' = w') (him : okDH d = true) :
    Calls Try.prog 8 #[.slice a n c] w fun e w' => ∃ u, e = .returned (.tuple #[u, .int .i64 0]) ∧ Dh w' u d ∧ Grew w w' := by
  have HOI0 := Lib.hid HOI
  have HMA0 := Lib.hid HMA
  have HAT0 := Lib.hid HAT
  have HIH0 := Lib.hid HIH
  clear HIH
  have HIM := Lib.hid him
  clear him
  clear HOI HMA HAT
  go_enter Try.func8, Try.ntmps8
  go_upto_region 1 with fail
  have hR : Blk (w.alloc (.cells #[.int .i64 0, .int .u32 0, .int .u32 0, .int .u32 0, .slice none 0 0, .int .i64 0, .int .u32 0, .int .u32 0, .int .u32 0, .int .u32 0, .int .u32 0, .int .u32 0] 26)) w.heap.size #[.int .i64 0, .int .u32 0, .int .u32 0, .int .u32 0, .slice none 0 0, .int .i64 0, .int .u32 0, .int .u32 0, .int .u32 0, .int .u32 0, .int .u32 0, .int .u32 0] 26 := Blk.new _ _ _ _ rfl
  have g0 : Grew w (w.alloc (.cells #[.int .i64 0, .int .u32 0, .int .u32 0, .int .u32 0, .slice none 0 0, .int .i64 0, .int .u32 0, .int .u32 0, .int .u32 0, .int .u32 0, .int .u32 0, .int .u32 0] 26)) := (Grew.refl _).alloc _
  generalize (w.alloc (.cells #[.int .i64 0, .int .u32 0, .int .u32 0, .int .u32 0, .slice none 0 0, .int .i64 0, .int .u32 0, .int .u32 0, .int .u32 0, .int .u32 0, .int .u32 0, .int .u32 0] 26)) = w0 at *
  generalize hlR : w.heap.size = R at *
  have hwR : w.heap.size ≤ R := by omega
  have HR0 := Lib.hid hR
  have HG0 := Lib.hid g0
  clear hR g0
  go_wp2_with fail
  refine (HOI0.out _ HG0.out).mono ?_
  rintro e w1 ⟨m, rfl, hm, g1⟩
  have HM := Lib.hid hm
  have HG1 := Lib.hid (HG0.out.trans g1)
  have HR1 := Lib.hid (HR0.out.grew g1)
  clear hm g1 HR0 HG0
  go_wp2_with fail
  refine (HMA0.out _ HG1.out).mono ?_
  rintro e w2 ⟨u, rfl, hu, g2⟩
  have HU := Lib.hid hu
  have HM2 := Lib.hid (HM.out.grew g2)
  have HG2 := Lib.hid (HG1.out.trans g2)
  have HR2 := Lib.hid (HR1.out.grew g2)
  clear hu g2 HR1 HG1 HM
  go_wp2_with fail
  refine (HAT0.out w2 m u HM2.out HU.out).mono ?_
  rintro e w3 ⟨v3, rfl, hd3, g3⟩
  have HD3 := Lib.hid hd3
  obtain ⟨p1, k1, rfl, _⟩ := hd3.shape
  have HG3 := Lib.hid (HG2.out.trans g3)
  have HR3 := Lib.hid (HR2.out.grew g3)
  clear hd3 g3 HR2 HG2 HM2 HU
  go_upto_region 5 with fail
  have hD : Blk (w3.alloc (.cells #[.int .i64 d.op, .int .u32 d.xid, .int .u32 d.ci, .int .u32 d.yi, .slice p1 d.x.length k1, .int .i64 d.ty, .int .u32 d.wa, .int .u32 d.se, .int .u32 d.le, .int .u32 d.ma, .int .u32 d.ro, .int .u32 d.dn] 26)) w3.heap.size #[.int .i64 d.op, .int .u32 d.xid, .int .u32 d.ci, .int .u32 d.yi, .slice p1 d.x.length k1, .int .i64 d.ty, .int .u32 d.wa, .int .u32 d.se, .int .u32 d.le, .int .u32 d.ma, .int .u32 d.ro, .int .u32 d.dn] 26 := Blk.new _ _ _ _ rfl
  have g4 : Grew w3 (w3.alloc (.cells #[.int .i64 d.op, .int .u32 d.xid, .int .u32 d.ci, .int .u32 d.yi, .slice p1 d.x.length k1, .int .i64 d.ty, .int .u32 d.wa, .int .u32 d.se, .int .u32 d.le, .int .u32 d.ma, .int .u32 d.ro, .int .u32 d.dn] 26)) := (Grew.refl _).alloc _
  generalize (w3.alloc (.cells #[.int .i64 d.op, .int .u32 d.xid, .int .u32 d.ci, .int .u32 d.yi, .slice p1 d.x.length k1, .int .i64 d.ty, .int .u32 d.wa, .int .u32 d.se, .int .u32 d.le, .int .u32 d.ma, .int .u32 d.ro, .int .u32 d.dn] 26)) = w4 at *
  generalize hlD : w3.heap.size = D at *
  have HG4 := Lib.hid (HG3.out.trans g4)
  have HR4 := Lib.hid (HR3.out.grew g4)
  have HD4 := Lib.hid (HD3.out.grew g4)
  have hRD : Hid (R ≠ D) := Lib.hid (by have := HR3.out.lt; omega)
  have HDB := Lib.hid hD
  clear g4 HG3 HR3 HD3
  have y0 := HDB.out.cell 0
  have y1 := HDB.out.cell 1
  have y2 := HDB.out.cell 2
  have y3 := HDB.out.cell 3
  have y4 := HDB.out.cell 4
  have y5 := HDB.out.cell 5
  have y6 := HDB.out.cell 6
  have y7 := HDB.out.cell 7
  have y8 := HDB.out.cell 8
  have y9 := HDB.out.cell 9
  have y10 := HDB.out.cell 10
  have y11 := HDB.out.cell 11
  clear hD
  go_wp2_with fail
  refine (HIH0.out _ HG4.out).mono ?_
  rintro e w5 ⟨rfl, h5⟩
  obtain rfl := h5.symm
  go_wp2_with fail
  refine (isMsg_c HD4.out).mono ?_
  rintro e w6 ⟨rfl, g6⟩
  rw [HIM.out]
  have HG6 := Lib.hid (HG4.out.trans g6)
  have HR6 := Lib.hid (HR4.out.grew g6)
  have HDB6 := Lib.hid (HDB.out.grew g6)
  have HD6 := Lib.hid (HD4.out.grew g6)
  clear g6 HG4 HR4 HDB HD4 y0 y1 y2 y3 y4 y5 y6 y7 y8 y9 y10 y11
  have hR := HR6.out
  have G := HG6.out
  have x0 := hR.cell 0
  have x1 := hR.cell 1
  have x2 := hR.cell 2
  have x3 := hR.cell 3
  have x4 := hR.cell 4
  have x5 := hR.cell 5
  have x6 := hR.cell 6
  have x7 := hR.cell 7
  have x8 := hR.cell 8
  have x9 := hR.cell 9
  have x10 := hR.cell 10
  have x11 := hR.cell 11
  have q0 := hR.free 0
  have q1 := hR.free 1
  have q2 := hR.free 2
  have q3 := hR.free 3
  have q4 := hR.free 4
  have q5 := hR.free 5
  have q6 := hR.free 6
  have q7 := hR.free 7
  have q8 := hR.free 8
  have q9 := hR.free 9
  have q10 := hR.free 10
  have q11 := hR.free 11
  have y0 := HDB6.out.cell 0
  have y1 := HDB6.out.cell 1
  have y2 := HDB6.out.cell 2
  have y3 := HDB6.out.cell 3
  have y4 := HDB6.out.cell 4
  have y5 := HDB6.out.cell 5
  have y6 := HDB6.out.cell 6
  have y7 := HDB6.out.cell 7
  have y8 := HDB6.out.cell 8
  have y9 := HDB6.out.cell 9
  have y10 := HDB6.out.cell 10
  have y11 := HDB6.out.cell 11
  go_wp2_with fail
  have E := ((((((((((((hR.set (o := 0) ((.int .i64 d.op))).set (o := 1) ((.int .u32 d.xid))).set (o := 2) ((.int .u32 d.ci))).set (o := 3) ((.int .u32 d.yi))).set (o := 4) ((.slice p1 d.x.length k1))).set (o := 5) ((.int .i64 d.ty))).set (o := 6) ((.int .u32 d.wa))).set (o := 7) ((.int .u32 d.se))).set (o := 8) ((.int .u32 d.le))).set (o := 9) ((.int .u32 d.ma))).set (o := 10) ((.int .u32 d.ro))).set (o := 11) ((.int .u32 d.dn)))
  have GE := ((((((((((((G.setCell (b := R) (o := 0) (hwR) ((.int .i64 d.op))).setCell (b := R) (o := 1) (hwR) ((.int .u32 d.xid))).setCell (b := R) (o := 2) (hwR) ((.int .u32 d.ci))).setCell (b := R) (o := 3) (hwR) ((.int .u32 d.yi))).setCell (b := R) (o := 4) (hwR) ((.slice p1 d.x.length k1))).setCell (b := R) (o := 5) (hwR) ((.int .i64 d.ty))).setCell (b := R) (o := 6) (hwR) ((.int .u32 d.wa))).setCell (b := R) (o := 7) (hwR) ((.int .u32 d.se))).setCell (b := R) (o := 8) (hwR) ((.int .u32 d.le))).setCell (b := R) (o := 9) (hwR) ((.int .u32 d.ma))).setCell (b := R) (o := 10) (hwR) ((.int .u32 d.ro))).setCell (b := R) (o := 11) (hwR) ((.int .u32 d.dn)))
  have KK := ((((((((((((BufsKept.box (o := 0) hR (by simp [noU8]) ((.int .i64 d.op))).trans (BufsKept.box (o := 1) (hR.set (o := 0) ((.int .i64 d.op))) (by simp [noU8]) ((.int .u32 d.xid)))).trans (BufsKept.box (o := 2) ((hR.set (o := 0) ((.int .i64 d.op))).set (o := 1) ((.int .u32 d.xid))) (by simp [noU8]) ((.int .u32 d.ci)))).trans (BufsKept.box (o := 3) (((hR.set (o := 0) ((.int .i64 d.op))).set (o := 1) ((.int .u32 d.xid))).set (o := 2) ((.int .u32 d.ci))) (by simp [noU8]) ((.int .u32 d.yi)))).trans (BufsKept.box (o := 4) ((((hR.set (o := 0) ((.int .i64 d.op))).set (o := 1) ((.int .u32 d.xid))).set (o := 2) ((.int .u32 d.ci))).set (o := 3) ((.int .u32 d.yi))) (by simp [noU8]) ((.slice p1 d.x.length k1)))).trans (BufsKept.box (o := 5) (((((hR.set (o := 0) ((.int .i64 d.op))).set (o := 1) ((.int .u32 d.xid))).set (o := 2) ((.int .u32 d.ci))).set (o := 3) ((.int .u32 d.yi))).set (o := 4) ((.slice p1 d.x.length k1))) (by simp [noU8]) ((.int .i64 d.ty)))).trans (BufsKept.box (o := 6) ((((((hR.set (o := 0) ((.int .i64 d.op))).set (o := 1) ((.int .u32 d.xid))).set (o := 2) ((.int .u32 d.ci))).set (o := 3) ((.int .u32 d.yi))).set (o := 4) ((.slice p1 d.x.length k1))).set (o := 5) ((.int .i64 d.ty))) (by simp [noU8]) ((.int .u32 d.wa)))).trans (BufsKept.box (o := 7) (((((((hR.set (o := 0) ((.int .i64 d.op))).set (o := 1) ((.int .u32 d.xid))).set (o := 2) ((.int .u32 d.ci))).set (o := 3) ((.int .u32 d.yi))).set (o := 4) ((.slice p1 d.x.length k1))).set (o := 5) ((.int .i64 d.ty))).set (o := 6) ((.int .u32 d.wa))) (by simp [noU8]) ((.int .u32 d.se)))).trans (BufsKept.box (o := 8) ((((((((hR.set (o := 0) ((.int .i64 d.op))).set (o := 1) ((.int .u32 d.xid))).set (o := 2) ((.int .u32 d.ci))).set (o := 3) ((.int .u32 d.yi))).set (o := 4) ((.slice p1 d.x.length k1))).set (o := 5) ((.int .i64 d.ty))).set (o := 6) ((.int .u32 d.wa))).set (o := 7) ((.int .u32 d.se))) (by simp [noU8]) ((.int .u32 d.le)))).trans (BufsKept.box (o := 9) (((((((((hR.set (o := 0) ((.int .i64 d.op))).set (o := 1) ((.int .u32 d.xid))).set (o := 2) ((.int .u32 d.ci))).set (o := 3) ((.int .u32 d.yi))).set (o := 4) ((.slice p1 d.x.length k1))).set (o := 5) ((.int .i64 d.ty))).set (o := 6) ((.int .u32 d.wa))).set (o := 7) ((.int .u32 d.se))).set (o := 8) ((.int .u32 d.le))) (by simp [noU8]) ((.int .u32 d.ma)))).trans (BufsKept.box (o := 10) ((((((((((hR.set (o := 0) ((.int .i64 d.op))).set (o := 1) ((.int .u32 d.xid))).set (o := 2) ((.int .u32 d.ci))).set (o := 3) ((.int .u32 d.yi))).set (o := 4) ((.slice p1 d.x.length k1))).set (o := 5) ((.int .i64 d.ty))).set (o := 6) ((.int .u32 d.wa))).set (o := 7) ((.int .u32 d.se))).set (o := 8) ((.int .u32 d.le))).set (o := 9) ((.int .u32 d.ma))) (by simp [noU8]) ((.int .u32 d.ro)))).trans (BufsKept.box (o := 11) (((((((((((hR.set (o := 0) ((.int .i64 d.op))).set (o := 1) ((.int .u32 d.xid))).set (o := 2) ((.int .u32 d.ci))).set (o := 3) ((.int .u32 d.yi))).set (o := 4) ((.slice p1 d.x.length k1))).set (o := 5) ((.int .i64 d.ty))).set (o := 6) ((.int .u32 d.wa))).set (o := 7) ((.int .u32 d.se))).set (o := 8) ((.int .u32 d.le))).set (o := 9) ((.int .u32 d.ma))).set (o := 10) ((.int .u32 d.ro))) (by simp [noU8]) ((.int .u32 d.dn))))
  have e0 := E.cell 0
  have e1 := E.cell 1
  have e2 := E.cell 2
  have e3 := E.cell 3
  have e4 := E.cell 4
  have e5 := E.cell 5
  have e6 := E.cell 6
  have e7 := E.cell 7
  have e8 := E.cell 8
  have e9 := E.cell 9
  have e10 := E.cell 10
  have e11 := E.cell 11
  exact bodyPost_ret (v := .tuple #[.agg #[.int .i64 d.op, .int .u32 d.xid, .int .u32 d.ci, .int .u32 d.yi, .slice p1 d.x.length k1, .int .i64 d.ty, .int .u32 d.wa, .int .u32 d.se, .int .u32 d.le, .int .u32 d.ma, .int .u32 d.ro, .int .u32 d.dn], .int .i64 0]) (by simp [results, Try.results8, go_sem, e0, e1, e2, e3, e4, e5, e6, e7, e8, e9, e10, e11]) rfl ⟨_, rfl, HD6.out.kept KK, GE⟩
theorem fourD_of (b : List Int) (j : Nat) (hj : j < 7) (h4 : kS j = 4) : (tkAll noneI (optV b).1 (kN j)).getD 0 = fourV b (kN j) (kM j) := by
  rw [tkAll_none j hj, h4]
  unfold fourV
  cases fstV (optV b).1 (kN j) 4 (kM j) <;> rfl
theorem typD_of (b : List Int) : (tkAll noneI (optV b).1 53).getD 0 = typV b := by
  have := tkAll_none 0 (by omega) (optV b).1
  rw [show (53 : Int) = kN 0 from rfl, this]
  unfold typV
  show ((fstV (optV b).1 53 1 false).map (getV · true)).getD 0 = _
  cases e : fstV (optV b).1 53 1 false with
  | none => rfl
  | some d =>
    have hl : d.length = 1 := by
      unfold fstV at e
      obtain ⟨p, hp, rfl⟩ := Option.map_eq_some_iff.1 e
      have h2 := List.find?_some hp
      simp only [fitsV, Bool.and_eq_true, Bool.or_eq_true, beq_iff_eq, decide_eq_true_eq] at h2
      rw [List.length_take]
      omega
    match d, hl with
    | [x], _ => simp [getV_one]
theorem adD_of (b : List Int) : adD (msD b) (tkAll noneI (optV (b.drop 240)).1) = dhOf b := by
  unfold adD msD dhOf
  have h1 := fourD_of (b.drop 240) 1 (by omega) rfl
  have h2 := fourD_of (b.drop 240) 2 (by omega) rfl
  have h3 := fourD_of (b.drop 240) 3 (by omega) rfl
  have h4 := fourD_of (b.drop 240) 4 (by omega) rfl
  have h5 := fourD_of (b.drop 240) 5 (by omega) rfl
  have h6 := fourD_of (b.drop 240) 6 (by omega) rfl
  have h0 := typD_of (b.drop 240)
  simp only [kN, kM, List.getD_cons_zero, List.getD_cons_succ] at h1 h2 h3 h4 h5 h6
  rw [h0, h1, h2, h3, h4, h5, h6]
theorem get20_c : GetC := by
  intro v xs w hl hb
  have hq := hb
  obtain ⟨a, c, rfl, _, _⟩ := hb.shape
  by_cases k0 : xs.length < 240
  · have hk : getDHE xs = 160 := by unfold getDHE; rw [if_pos k0]
    have hp : getDH xs = zDH := by unfold getDH; rw [hk]; rfl
    rw [hk, hp]
    exact (get20_short a _ c (by omega) w).mono fun _ _ ⟨h1, h2⟩ => ⟨_, h1, Dh.zero _, h2⟩
  · obtain ⟨a8, c8, hcut, _, _, _, hrun⟩ := hq.run_cut (lo := 240) (hi := xs.length) (by omega) (Nat.le_refl _)
    rw [cutL_rest] at hcut
    have hr8 := hrun rfl .i64
    have hn : ¬ (xs.length : Int) < 240 := by omega
    have HOI : ∀ w', Grew w w' → Calls Try.prog 14 #[.slice a8 (xs.length - 240) c8] w' fun e w'' => ∃ m, e = .returned (.tuple #[m, .bool (optV (xs.drop 240)).2]) ∧ OV w'' m (oiF (optV (xs.drop 240)).2 (tkAll noneI (optV (xs.drop 240)).1)) ∧ Grew w' w'' := fun w' g => optionsIn_c (by rw [List.length_drop]; omega) (hcut.grew g)
    have HMA := fun w' (g : Grew w w') => msgAt_c (show 240 ≤ xs.length by omega) (hq.grew g)
    have HAT := fun (F : Int → Option Int) w' t v (h1 : OV w' t F) (h2 : Dh w' v (msD xs)) => addTo_c h2 h1
    have HIH := fun w' (g : Grew w w') => isHead_c (show 240 ≤ xs.length by omega) w' (hq.grew g)
    have hbad : ∀ h : getDHE xs = 161, getDH xs = zDH := fun h => by unfold getDH; rw [h]; rfl
    cases hok : (optV (xs.drop 240)).2
    · rw [hok] at HOI
      have hk : getDHE xs = 161 := by
        unfold getDHE
        rw [if_neg k0]
        split
        · rfl
        · rw [if_pos (.inl hok)]
      rw [hk, hbad hk]
      exact get20_0 a _ c hn a8 c8 hr8 HOI HMA (HAT _)
    · rw [hok] at HOI
      cases hih : ihD xs
      · have hk : getDHE xs = 161 := by
          unfold getDHE
          rw [if_neg k0, if_pos]
          unfold hdOk
          unfold ihD at hih
          rw [Bool.and_assoc, Bool.and_assoc, ← Bool.and_assoc (xs.getD 1 0 == 1), hih, Bool.and_false]
        rw [hih] at HIH
        rw [hk, hbad hk]
        exact get20_1 a _ c hn a8 c8 hr8 HOI HMA (HAT _) HIH
      · rw [hih] at HIH
        have hd : adD (msD xs) (oiF true (tkAll noneI (optV (xs.drop 240)).1)) = dhOf xs := adD_of xs
        have hHAT := HAT (oiF true (tkAll noneI (optV (xs.drop 240)).1))
        rw [hd] at hHAT
        have l6 : (cutL xs 28 34).length = 6 := by rw [cutL_length (by omega) (by omega)]
        cases him : okDH (dhOf xs)
        · have hk : getDHE xs = 161 := by
            unfold getDHE
            rw [if_neg k0]
            split
            · rfl
            · rename_i hh
              have hh' : hdOk xs = true := by simpa using hh
              unfold hdOk at hh'
              simp only [Bool.and_eq_true, Bool.or_eq_true, beq_iff_eq] at hh'
              rw [if_pos]
              refine .inr ?_
              have hno : ¬ (1 ≤ typV (xs.drop 240) ∧ typV (xs.drop 240) ≤ 8) := fun hc => by
                have := okDH_of (f := dhOf xs) hh'.1.1.1 l6 hc.1 hc.2
                rw [him] at this
                cases this
              omega
          rw [hk, hbad hk]
          exact get20_2 a _ c hn a8 c8 hr8 HOI HMA hHAT HIH him
        · have hs := okDH_spec him
          have hk : getDHE xs = 0 := by
            unfold getDHE
            rw [if_neg k0, if_neg, if_neg]
            · intro h
              have h1 : 1 ≤ typV (xs.drop 240) := hs.2.2.1
              have h8 : typV (xs.drop 240) ≤ 8 := hs.2.2.2
              rcases h with h | h | h
              · rw [hok] at h; cases h
              · omega
              · omega
            · unfold hdOk
              unfold ihD at hih
              simp only [Bool.and_eq_true, beq_iff_eq] at hih
              have h1 : xs.getD 0 0 = 1 ∨ xs.getD 0 0 = 2 := hs.1
              have h2 : (xs.getD 0 0 == 1 || xs.getD 0 0 == 2) = true := by simpa using h1
              rw [h2, hih.1.1, hih.1.2, hih.2]
              simp
          have hp : getDH xs = dhOf xs := by unfold getDH; rw [if_pos hk]
          rw [hk, hp]
          exact get20_3 a _ c hn a8 c8 hr8 HOI HMA hHAT HIH him
end Go.Proofs.Ytnmffkmpkgmkpaa
