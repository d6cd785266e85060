/-
  Package plic: the controller that a controller's holdings are (plic).
-/
import Derived.Test.YtgcfmijkggpemaaGreatPlE
import Derived.Test.YtgcfmijkggpemaaGreatDeps
set_option maxRecDepth 4000
set_option linter.unusedVariables false
set_option linter.unusedSimpArgs false
namespace Go.Proofs.YtgcfmijkggpemaaGreat
open Go.RowKit

theorem VS.Ok.rows {s : VS} (h : s.Ok) : Ints.AreBytes s.ps.pr ∧ Ints.AreBytes s.ps.en ∧ Ints.AreBytes s.ps.th ∧ plIntI s.n ∧ plIntI s.k := by
  have h1 := h.p1; have h2 := h.p2; have h3 := h.n.bd; have h4 := h.k.bd; have h5 := h.e0.bd; have h6 := h.e1.bd; have h7 := h.t0; have h8 := h.t1
  unfold plIntI
  refine ⟨fun x hx => ?_, fun x hx => ?_, fun x hx => ?_, by omega, by omega⟩ <;> simp at hx <;> omega

/-- What the operations of a region give. -/
def plR (W : World) (c : Nat) (n k : Int) : (Nat → Value) → Nat → Value → World → Prop
  | _, 0, v, w => ∃ b0, v = .slice (some ⟨b0, 0, none⟩) 3 3 ∧ Ints.Row w W.heap.size (.slice (some ⟨b0, 0, none⟩) 3 3) [0, 0, 0]
  | _, 1, v, _ => v = .pointer (some ⟨c, 0, none⟩)
  | _, 2, v, _ => v = .pointer (some ⟨c, 0, none⟩)
  | _, 3, v, _ => v = .pointer (some ⟨c, 3, none⟩)
  | _, 4, v, _ => v = .int .i64 n
  | _, 5, v, _ => v = .pointer (some ⟨c, 0, none⟩)
  | _, 6, v, _ => v = .pointer (some ⟨c, 0, none⟩)
  | _, 7, v, _ => v = .pointer (some ⟨c, 4, none⟩)
  | _, 8, v, _ => v = .int .i64 k
  | _, 9, v, w => ∃ b0, v = .slice (some ⟨b0, 0, none⟩) 2 2 ∧ Ints.Row w W.heap.size (.slice (some ⟨b0, 0, none⟩) 2 2) [0, 0]
  | _, 10, v, w => ∃ b0, v = .slice (some ⟨b0, 0, none⟩) 2 2 ∧ Ints.Row w W.heap.size (.slice (some ⟨b0, 0, none⟩) 2 2) [0, 0]
  | vs, 11, v, _ => v = .agg #[vs 0, .int .i64 n, .int .i64 k, vs 9, vs 10]
  | _, 12, v, w => ∃ b0, v = .pointer (some ⟨b0, 0, none⟩) ∧ W.heap.size ≤ b0 ∧ Blk w b0 #[.slice none 0 0, .int .i64 0, .int .i64 0, .slice none 0 0, .slice none 0 0] 30
  | _, _, _, _ => True
theorem plR_grew {W : World} {c : Nat} {n k : Int} : ∀ vs j v w w', Grew w w' → plR W c n k vs j v w → plR W c n k vs j v w'
  | _, 0, _, _, _, g, ⟨b0, e, h0⟩ => ⟨b0, e, h0.grew g⟩
  | _, 1, _, _, _, _, h => h
  | _, 2, _, _, _, _, h => h
  | _, 3, _, _, _, _, h => h
  | _, 4, _, _, _, _, h => h
  | _, 5, _, _, _, _, h => h
  | _, 6, _, _, _, _, h => h
  | _, 7, _, _, _, _, h => h
  | _, 8, _, _, _, _, h => h
  | _, 9, _, _, _, g, ⟨b0, e, h0⟩ => ⟨b0, e, h0.grew g⟩
  | _, 10, _, _, _, g, ⟨b0, e, h0⟩ => ⟨b0, e, h0.grew g⟩
  | _, 11, _, _, _, _, h => h
  | _, 12, _, _, _, g, ⟨b0, e, h0, h1⟩ => ⟨b0, e, h0, h1.grew g⟩
  | _, _ + 13, _, _, _, _, _ => True.intro
theorem plR_lt {W : World} {c : Nat} {n k : Int} : ∀ vs j v w, ([0, 9, 10, 12] : List Nat).contains j = true → plR W c n k vs j v w → ∀ g, leadsTo v = some g → g < w.heap.size
  | _, 0, _, w, _, ⟨b0, e, h0⟩ => by subst e; intro g hg; simp only [leadsTo, Option.some.injEq] at hg; subst hg; exact h0.lt
  | _, 1, _, _, hc, _ => by simp at hc
  | _, 2, _, _, hc, _ => by simp at hc
  | _, 3, _, _, hc, _ => by simp at hc
  | _, 4, _, _, hc, _ => by simp at hc
  | _, 5, _, _, hc, _ => by simp at hc
  | _, 6, _, _, hc, _ => by simp at hc
  | _, 7, _, _, hc, _ => by simp at hc
  | _, 8, _, _, hc, _ => by simp at hc
  | _, 9, _, w, _, ⟨b0, e, h0⟩ => by subst e; intro g hg; simp only [leadsTo, Option.some.injEq] at hg; subst hg; exact h0.lt
  | _, 10, _, w, _, ⟨b0, e, h0⟩ => by subst e; intro g hg; simp only [leadsTo, Option.some.injEq] at hg; subst hg; exact h0.lt
  | _, 11, _, _, hc, _ => by simp at hc
  | _, 12, _, w, _, ⟨b0, e, h0, h1⟩ => by subst e; intro g hg; simp only [leadsTo, Option.some.injEq] at hg; subst hg; exact h1.lt
  | _, _ + 13, _, _, hc, _ => by simp at hc
theorem plR_loc {W : World} {c : Nat} {n k : Int} : ∀ (vs vs' : Nat → Value) j v w, (∀ k ∈ ([[], [], [], [], [], [], [], [], [], [], [], [0, 9, 10], []] : List (List Nat)).getD j [], vs k = vs' k) → plR W c n k vs j v w → plR W c n k vs' j v w
  | _, _, 0, _, _, _, h => h
  | _, _, 1, _, _, _, h => h
  | _, _, 2, _, _, _, h => h
  | _, _, 3, _, _, _, h => h
  | _, _, 4, _, _, _, h => h
  | _, _, 5, _, _, _, h => h
  | _, _, 6, _, _, _, h => h
  | _, _, 7, _, _, _, h => h
  | _, _, 8, _, _, _, h => h
  | _, _, 9, _, _, _, h => h
  | _, _, 10, _, _, _, h => h
  | vs, vs', 11, v, w, hk, h => by show _ = _; rw [← hk 0 (by decide), ← hk 9 (by decide), ← hk 10 (by decide)]; exact h
  | _, _, 12, _, _, _, h => h
  | _, _, _ + 13, _, _, _, _ => True.intro

set_option maxHeartbeats 4000000 in
theorem plPlic_c {c : Nat} {s : VS} (hs : s.Ok) {W w : World} (hb : Blk w c s.ctl 87) (g : Grew W w) :
    Calls Tryz.prog 39 #[.pointer (some ⟨c, 0, none⟩)] w fun e w' => ∃ v, e = .returned v ∧ Hid (Plr w' w.heap.size v s.ps) ∧ Grew W w' := by
  have HO := Lib.hid hs.rows
  clear hs
  obtain ⟨p1, p2, n, k, e0, t0, e1, t1⟩ := s
  have hgs := g.size
  have hc := hb.lt
  have hm3 : ∀ u : World, (Instr.makeSlice 28 (.int .i64 3) (.int .i64 3)).run Tryz.prog u = .ok (.slice (some ⟨u.heap.size, 0, none⟩) 3 3) (u.alloc (.cells #[.int .i64 0, .int .i64 0, .int .i64 0] 3)) := fun u => by
    obtain ⟨i0, hi, hz0, hz1, hz2⟩ := info_parts Ints.i_info
    have := run_make (P := Tryz.prog) (w := u) 28 3 i0 (.int .i64 0) Tryz.underlying28 hi hz0 .i64 .i64 3 3 (by decide) (by decide) (by rw [hz2]; decide) (by decide)
    rw [hz1, show madeCells (Value.int .i64 0).cells (Int.toNat 3 * 1) = #[.int .i64 0, .int .i64 0, .int .i64 0] by kernel_rfl] at this
    exact this
  have hm2 : ∀ u : World, (Instr.makeSlice 28 (.int .i64 2) (.int .i64 2)).run Tryz.prog u = .ok (.slice (some ⟨u.heap.size, 0, none⟩) 2 2) (u.alloc (.cells #[.int .i64 0, .int .i64 0] 3)) := fun u => by
    obtain ⟨i0, hi, hz0, hz1, hz2⟩ := info_parts Ints.i_info
    have := run_make (P := Tryz.prog) (w := u) 28 3 i0 (.int .i64 0) Tryz.underlying28 hi hz0 .i64 .i64 2 2 (by decide) (by decide) (by rw [hz2]; decide) (by decide)
    rw [hz1, show madeCells (Value.int .i64 0).cells (Int.toNat 2 * 1) = #[.int .i64 0, .int .i64 0] by kernel_rfl] at this
    exact this
  go_enter Tryz.func39, Tryz.ntmps39
  go_upto_region 1 with fail
  have kc := hb.alloc (.cells #[.slice none 0 0, .int .i64 0, .int .i64 0, .slice none 0 0, .slice none 0 0] 30)
  have kr : Blk (w.alloc (.cells #[.slice none 0 0, .int .i64 0, .int .i64 0, .slice none 0 0, .slice none 0 0] 30)) w.heap.size #[.slice none 0 0, .int .i64 0, .int .i64 0, .slice none 0 0, .slice none 0 0] 30 := Blk.new _ _ _ _ rfl
  have G0 : Grew w (w.alloc (.cells #[.slice none 0 0, .int .i64 0, .int .i64 0, .slice none 0 0, .slice none 0 0] 30)) := (Grew.refl w).alloc _
  have hD0 := kr.lt
  generalize (w.alloc (.cells #[.slice none 0 0, .int .i64 0, .int .i64 0, .slice none 0 0, .slice none 0 0] 30)) = w0 at *
  generalize hD : w.heap.size = D at *
  have HD := Lib.hid hD
  clear hD
  refine region_deps 13 [some 8, some 9, some 10, some 11, some 12, some 13, some 14, some 15, some 16, some 17, some 18, some 19, some 3] [[], [], [], [], [], [], [], [], [], [], [], [0, 9, 10], []] [0, 9, 10, 12] (plR w0 c n k) plR_grew plR_lt plR_loc (Grew.refl w0) (by kernel_rfl) (by kernel_rfl) ?_ ?_
  · simp only [List.take_succ_cons, List.take_zero]
    refine GivesAll.cons (fun vs w1 g1 hd K hK => ?_) ?_
    · simp only [putsT, Nat.zero_add, Nat.reduceAdd, List.getD_cons_zero, List.getD_cons_succ, Act.put, List.setIfInBounds_toArray, List.set_cons_zero, List.set_cons_succ] at hK ⊢
      go_simp
      exact hK _ _ ((Grew.refl _).alloc _) ⟨_, rfl, Ints.Row.lit w1 _ g1.size #[.int .i64 0, .int .i64 0, .int .i64 0] [0, 0, 0] rfl (by decide) _ rfl 3 rfl⟩ (fun _ g hg => by simp only [leadsTo, Option.some.injEq] at hg; subst hg; exact Nat.le_refl _)
    refine GivesAll.cons (fun vs w1 g1 hd K hK => ?_) ?_
    · simp only [putsT, Nat.zero_add, Nat.reduceAdd, List.getD_cons_zero, List.getD_cons_succ, Act.put, List.setIfInBounds_toArray, List.set_cons_zero, List.set_cons_succ] at hK ⊢
      go_simp
      exact hK _ _ (Grew.refl _) rfl (fun h => by simp at h)
    refine GivesAll.cons (fun vs w1 g1 hd K hK => ?_) ?_
    · have e1 : vs 1 = .pointer (some ⟨c, 0, none⟩) := hd 1 (by kernel_rfl)
      simp only [putsT, Nat.zero_add, Nat.reduceAdd, List.getD_cons_zero, List.getD_cons_succ, Act.put, List.setIfInBounds_toArray, List.set_cons_zero, List.set_cons_succ, e1] at hK ⊢
      go_simp
      exact hK _ _ (Grew.refl _) rfl (fun h => by simp at h)
    refine GivesAll.cons (fun vs w1 g1 hd K hK => ?_) ?_
    · have e2 : vs 2 = .pointer (some ⟨c, 0, none⟩) := hd 2 (by kernel_rfl)
      simp only [putsT, Nat.zero_add, Nat.reduceAdd, List.getD_cons_zero, List.getD_cons_succ, Act.put, List.setIfInBounds_toArray, List.set_cons_zero, List.set_cons_succ, e2] at hK ⊢
      go_simp
      exact hK _ _ (Grew.refl _) rfl (fun h => by simp at h)
    refine GivesAll.cons (fun vs w1 g1 hd K hK => ?_) ?_
    · have e3 : vs 3 = .pointer (some ⟨c, 3, none⟩) := hd 3 (by kernel_rfl)
      simp only [putsT, Nat.zero_add, Nat.reduceAdd, List.getD_cons_zero, List.getD_cons_succ, Act.put, List.setIfInBounds_toArray, List.set_cons_zero, List.set_cons_succ, e3] at hK ⊢
      have c3 := (kc.grew g1).cell 3
      go_simp
      exact hK _ _ (Grew.refl _) rfl (fun h => by simp at h)
    refine GivesAll.cons (fun vs w1 g1 hd K hK => ?_) ?_
    · simp only [putsT, Nat.zero_add, Nat.reduceAdd, List.getD_cons_zero, List.getD_cons_succ, Act.put, List.setIfInBounds_toArray, List.set_cons_zero, List.set_cons_succ] at hK ⊢
      go_simp
      exact hK _ _ (Grew.refl _) rfl (fun h => by simp at h)
    refine GivesAll.cons (fun vs w1 g1 hd K hK => ?_) ?_
    · have e5 : vs 5 = .pointer (some ⟨c, 0, none⟩) := hd 5 (by kernel_rfl)
      simp only [putsT, Nat.zero_add, Nat.reduceAdd, List.getD_cons_zero, List.getD_cons_succ, Act.put, List.setIfInBounds_toArray, List.set_cons_zero, List.set_cons_succ, e5] at hK ⊢
      go_simp
      exact hK _ _ (Grew.refl _) rfl (fun h => by simp at h)
    refine GivesAll.cons (fun vs w1 g1 hd K hK => ?_) ?_
    · have e6 : vs 6 = .pointer (some ⟨c, 0, none⟩) := hd 6 (by kernel_rfl)
      simp only [putsT, Nat.zero_add, Nat.reduceAdd, List.getD_cons_zero, List.getD_cons_succ, Act.put, List.setIfInBounds_toArray, List.set_cons_zero, List.set_cons_succ, e6] at hK ⊢
      go_simp
      exact hK _ _ (Grew.refl _) rfl (fun h => by simp at h)
    refine GivesAll.cons (fun vs w1 g1 hd K hK => ?_) ?_
    · have e7 : vs 7 = .pointer (some ⟨c, 4, none⟩) := hd 7 (by kernel_rfl)
      simp only [putsT, Nat.zero_add, Nat.reduceAdd, List.getD_cons_zero, List.getD_cons_succ, Act.put, List.setIfInBounds_toArray, List.set_cons_zero, List.set_cons_succ, e7] at hK ⊢
      have c4 := (kc.grew g1).cell 4
      go_simp
      exact hK _ _ (Grew.refl _) rfl (fun h => by simp at h)
    refine GivesAll.cons (fun vs w1 g1 hd K hK => ?_) ?_
    · simp only [putsT, Nat.zero_add, Nat.reduceAdd, List.getD_cons_zero, List.getD_cons_succ, Act.put, List.setIfInBounds_toArray, List.set_cons_zero, List.set_cons_succ] at hK ⊢
      go_simp
      exact hK _ _ ((Grew.refl _).alloc _) ⟨_, rfl, Ints.Row.lit w1 _ g1.size #[.int .i64 0, .int .i64 0] [0, 0] rfl (by decide) _ rfl 2 rfl⟩ (fun _ g hg => by simp only [leadsTo, Option.some.injEq] at hg; subst hg; exact Nat.le_refl _)
    refine GivesAll.cons (fun vs w1 g1 hd K hK => ?_) ?_
    · simp only [putsT, Nat.zero_add, Nat.reduceAdd, List.getD_cons_zero, List.getD_cons_succ, Act.put, List.setIfInBounds_toArray, List.set_cons_zero, List.set_cons_succ] at hK ⊢
      go_simp
      exact hK _ _ ((Grew.refl _).alloc _) ⟨_, rfl, Ints.Row.lit w1 _ g1.size #[.int .i64 0, .int .i64 0] [0, 0] rfl (by decide) _ rfl 2 rfl⟩ (fun _ g hg => by simp only [leadsTo, Option.some.injEq] at hg; subst hg; exact Nat.le_refl _)
    refine GivesAll.cons (fun vs w1 g1 hd K hK => ?_) ?_
    · obtain ⟨b0_0, e0, r0_0⟩ := hd 0 (by kernel_rfl)
      have e4 : vs 4 = .int .i64 n := hd 4 (by kernel_rfl)
      have e8 : vs 8 = .int .i64 k := hd 8 (by kernel_rfl)
      obtain ⟨b0_9, e9, r9_0⟩ := hd 9 (by kernel_rfl)
      obtain ⟨b0_10, e10, r10_0⟩ := hd 10 (by kernel_rfl)
      simp only [putsT, Nat.zero_add, Nat.reduceAdd, List.getD_cons_zero, List.getD_cons_succ, Act.put, List.setIfInBounds_toArray, List.set_cons_zero, List.set_cons_succ, e0, e4, e8, e9, e10] at hK ⊢
      go_simp
      exact hK _ _ (Grew.refl _) (by show _ = _; simp only [e0, e9, e10]) (fun h => by simp at h)
    refine GivesAll.cons (fun vs w1 g1 hd K hK => ?_) ?_
    · simp only [putsT, Nat.zero_add, Nat.reduceAdd, List.getD_cons_zero, List.getD_cons_succ, Act.put, List.setIfInBounds_toArray, List.set_cons_zero, List.set_cons_succ] at hK ⊢
      go_simp
      exact hK _ _ ((Grew.refl _).alloc _) ⟨_, rfl, g1.size, Blk.new _ _ _ _ rfl⟩ (fun _ g hg => by simp only [leadsTo, Option.some.injEq] at hg; subst hg; exact Nat.le_refl _)
    exact GivesAll.nil
  intro vs wz gz hv hap
  obtain ⟨b0_0, e0, r0_0⟩ := hv 0 (by decide)
  have e1 : vs 1 = .pointer (some ⟨c, 0, none⟩) := hv 1 (by decide)
  have e2 : vs 2 = .pointer (some ⟨c, 0, none⟩) := hv 2 (by decide)
  have e3 : vs 3 = .pointer (some ⟨c, 3, none⟩) := hv 3 (by decide)
  have e4 : vs 4 = .int .i64 n := hv 4 (by decide)
  have e5 : vs 5 = .pointer (some ⟨c, 0, none⟩) := hv 5 (by decide)
  have e6 : vs 6 = .pointer (some ⟨c, 0, none⟩) := hv 6 (by decide)
  have e7 : vs 7 = .pointer (some ⟨c, 4, none⟩) := hv 7 (by decide)
  have e8 : vs 8 = .int .i64 k := hv 8 (by decide)
  obtain ⟨b0_9, e9, r9_0⟩ := hv 9 (by decide)
  obtain ⟨b0_10, e10, r10_0⟩ := hv 10 (by decide)
  have e11 : vs 11 = .agg #[vs 0, .int .i64 n, .int .i64 k, vs 9, vs 10] := hv 11 (by decide)
  obtain ⟨b0_12, e12, r12_0, r12_1⟩ := hv 12 (by decide)
  have n0_9 := hap 0 9 (by decide) (by decide) (by decide) (by decide) (by decide) _ (by rw [e0]; rfl)
  rw [e9] at n0_9
  simp only [leadsTo, ne_eq, Option.some.injEq] at n0_9
  have n0_10 := hap 0 10 (by decide) (by decide) (by decide) (by decide) (by decide) _ (by rw [e0]; rfl)
  rw [e10] at n0_10
  simp only [leadsTo, ne_eq, Option.some.injEq] at n0_10
  have n0_12 := hap 0 12 (by decide) (by decide) (by decide) (by decide) (by decide) _ (by rw [e0]; rfl)
  rw [e12] at n0_12
  simp only [leadsTo, ne_eq, Option.some.injEq] at n0_12
  have n9_10 := hap 9 10 (by decide) (by decide) (by decide) (by decide) (by decide) _ (by rw [e9]; rfl)
  rw [e10] at n9_10
  simp only [leadsTo, ne_eq, Option.some.injEq] at n9_10
  have n9_12 := hap 9 12 (by decide) (by decide) (by decide) (by decide) (by decide) _ (by rw [e9]; rfl)
  rw [e12] at n9_12
  simp only [leadsTo, ne_eq, Option.some.injEq] at n9_12
  have n10_12 := hap 10 12 (by decide) (by decide) (by decide) (by decide) (by decide) _ (by rw [e10]; rfl)
  rw [e12] at n10_12
  simp only [leadsTo, ne_eq, Option.some.injEq] at n10_12
  clear hv hap
  simp only [putsT, Nat.zero_add, Nat.reduceAdd, List.getD_cons_zero, List.getD_cons_succ, Act.put, List.setIfInBounds_toArray, List.set_cons_zero, List.set_cons_succ, List.drop_succ_cons, List.drop_zero, e0, e1, e2, e3, e4, e5, e6, e7, e8, e9, e10, e11, e12]
  clear e0 e1 e2 e3 e4 e5 e6 e7 e8 e9 e10 e11 e12
  have n09 : b0_0 ≠ b0_9 := fun h => n0_9 h.symm
  have n010 : b0_0 ≠ b0_10 := fun h => n0_10 h.symm
  have n012 : b0_0 ≠ b0_12 := fun h => n0_12 h.symm
  have n910 : b0_9 ≠ b0_10 := fun h => n9_10 h.symm
  have n912 : b0_9 ≠ b0_12 := fun h => n9_12 h.symm
  have n1012 : b0_10 ≠ b0_12 := fun h => n10_12 h.symm
  clear n0_9 n0_10 n0_12 n9_10 n9_12 n10_12
  generalize b0_0 = bP at *
  generalize b0_9 = bE at *
  generalize b0_10 = bT at *
  generalize b0_12 = X at *
  have kX := r12_1
  have hX := r12_0
  have hP := r0_0.ge bP rfl
  have hE := r9_0.ge bE rfl
  have hT := r10_0.ge bT rfl
  have kc1 := kc.grew gz
  have kr1 := kr.grew gz
  have j1 := G0.trans gz
  have RP1 := Lib.hid r0_0
  have RE1 := Lib.hid r9_0
  have RT1 := Lib.hid r10_0
  have hc0 := kc.lt
  clear r12_1 r12_0 r0_0 r9_0 r10_0 kc kr
  have hwD : w.heap.size ≤ D := by rw [HD.out]; exact Nat.le_refl _
  have hw0 := G0.size
  clear gz G0
  generalize hS0 : w0.heap.size = S0 at *
  have HS0 := Lib.hid hS0
  clear hS0
  have x0 := kX.cell 0
  have f0 := kX.free 0
  have x1 := kX.cell 1
  have f1 := kX.free 1
  have x2 := kX.cell 2
  have f2 := kX.free 2
  have x3 := kX.cell 3
  have f3 := kX.free 3
  have x4 := kX.cell 4
  have f4 := kX.free 4
  go_upto_region 2 with fail
  have kX1 := (((((kX.set (o := 0) (.slice (some ⟨bP, 0, none⟩) 3 3)).set (o := 1) (.int .i64 n)).set (o := 2) (.int .i64 k)).set (o := 3) (.slice (some ⟨bE, 0, none⟩) 2 2)).set (o := 4) (.slice (some ⟨bT, 0, none⟩) 2 2))
  have kc2 := (((((kc1.other (show c ≠ X by omega) (o := 0) (.slice (some ⟨bP, 0, none⟩) 3 3)).other (show c ≠ X by omega) (o := 1) (.int .i64 n)).other (show c ≠ X by omega) (o := 2) (.int .i64 k)).other (show c ≠ X by omega) (o := 3) (.slice (some ⟨bE, 0, none⟩) 2 2)).other (show c ≠ X by omega) (o := 4) (.slice (some ⟨bT, 0, none⟩) 2 2))
  have kr2 := (((((kr1.other (show D ≠ X by omega) (o := 0) (.slice (some ⟨bP, 0, none⟩) 3 3)).other (show D ≠ X by omega) (o := 1) (.int .i64 n)).other (show D ≠ X by omega) (o := 2) (.int .i64 k)).other (show D ≠ X by omega) (o := 3) (.slice (some ⟨bE, 0, none⟩) 2 2)).other (show D ≠ X by omega) (o := 4) (.slice (some ⟨bT, 0, none⟩) 2 2))
  have RP2 := Lib.hid ((((((RP1.out.other n012 (o := 0) (.slice (some ⟨bP, 0, none⟩) 3 3)).other n012 (o := 1) (.int .i64 n)).other n012 (o := 2) (.int .i64 k)).other n012 (o := 3) (.slice (some ⟨bE, 0, none⟩) 2 2)).other n012 (o := 4) (.slice (some ⟨bT, 0, none⟩) 2 2)))
  have RE2 := Lib.hid ((((((RE1.out.other n912 (o := 0) (.slice (some ⟨bP, 0, none⟩) 3 3)).other n912 (o := 1) (.int .i64 n)).other n912 (o := 2) (.int .i64 k)).other n912 (o := 3) (.slice (some ⟨bE, 0, none⟩) 2 2)).other n912 (o := 4) (.slice (some ⟨bT, 0, none⟩) 2 2)))
  have RT2 := Lib.hid ((((((RT1.out.other n1012 (o := 0) (.slice (some ⟨bP, 0, none⟩) 3 3)).other n1012 (o := 1) (.int .i64 n)).other n1012 (o := 2) (.int .i64 k)).other n1012 (o := 3) (.slice (some ⟨bE, 0, none⟩) 2 2)).other n1012 (o := 4) (.slice (some ⟨bT, 0, none⟩) 2 2)))
  have j2 := (((((j1.setCell (b := X) (o := 0) (by omega) (.slice (some ⟨bP, 0, none⟩) 3 3)).setCell (b := X) (o := 1) (by omega) (.int .i64 n)).setCell (b := X) (o := 2) (by omega) (.int .i64 k)).setCell (b := X) (o := 3) (by omega) (.slice (some ⟨bE, 0, none⟩) 2 2)).setCell (b := X) (o := 4) (by omega) (.slice (some ⟨bT, 0, none⟩) 2 2))
  clear x0 x1 x2 x3 x4 f0 f1 f2 f3 f4 kX kc1 kr1 RP1 RE1 RT1 j1
  generalize (((((wz.setCell ⟨X, 0, none⟩ (.slice (some ⟨bP, 0, none⟩) 3 3)).setCell ⟨X, 1, none⟩ (.int .i64 n)).setCell ⟨X, 2, none⟩ (.int .i64 k)).setCell ⟨X, 3, none⟩ (.slice (some ⟨bE, 0, none⟩) 2 2)).setCell ⟨X, 4, none⟩ (.slice (some ⟨bT, 0, none⟩) 2 2)) = w2 at *
  replace kX1 : Blk w2 X #[.slice (some ⟨bP, 0, none⟩) 3 3, .int .i64 n, .int .i64 k, .slice (some ⟨bE, 0, none⟩) 2 2, .slice (some ⟨bT, 0, none⟩) 2 2] 30 := kX1
  have y0 := kc2.cell 0
  have y1 := kc2.cell 1
  have y2 := kc2.cell 2
  go_wp2_with fail
  clear y0 y1 y2
  have i0 : ∀ u : World, (Instr.index 81 (.agg #[.int .i64 0, .int .i64 p1, .int .i64 p2]) (.int .i64 0)).run Tryz.prog u = .ok (.int .i64 0) u := fun _ => by kernel_rfl
  have i1 : ∀ u : World, (Instr.index 81 (.agg #[.int .i64 0, .int .i64 p1, .int .i64 p2]) (.int .i64 1)).run Tryz.prog u = .ok (.int .i64 p1) u := fun _ => by kernel_rfl
  have i2 : ∀ u : World, (Instr.index 81 (.agg #[.int .i64 0, .int .i64 p1, .int .i64 p2]) (.int .i64 2)).run Tryz.prog u = .ok (.int .i64 p2) u := fun _ => by kernel_rfl
  refine wp_loop_rounds 4 ?_
  skip
  rw [rounds_succ]
  go_upto_region 5 with fail
  have x0 := kX1.cell 0
  obtain ⟨c0, f0⟩ := RP2.out.at 0 (by simp)
  go_upto_region 6 with fail
  have kX_3 := (kX1.other (show X ≠ bP from n012.symm) (o := 0) (.int .i64 0))
  have kc_3 := (kc2.other (show c ≠ bP by omega) (o := 0) (.int .i64 0))
  have kr_3 := (kr2.other (show D ≠ bP by omega) (o := 0) (.int .i64 0))
  have RP_3 := Lib.hid (RP2.out.put 0 0)
  have RE_3 := Lib.hid (RE2.out.other n09.symm (o := 0) (.int .i64 0))
  have RT_3 := Lib.hid (RT2.out.other n010.symm (o := 0) (.int .i64 0))
  have j_3 := (j2.setCell (b := bP) (o := 0) (by omega) (.int .i64 0))
  clear x0 c0 f0 kX1 kc2 kr2 RP2 RE2 RT2 j2
  generalize (w2.setCell ⟨bP, 0, none⟩ (.int .i64 0)) = w3 at *
  go_wp2_with fail
  rw [rounds_succ]
  go_upto_region 5 with fail
  have x0 := kX_3.cell 0
  obtain ⟨c0, f0⟩ := RP_3.out.at 1 (by simp)
  go_upto_region 6 with fail
  have kX_4 := (kX_3.other (show X ≠ bP from n012.symm) (o := 1) (.int .i64 p1))
  have kc_4 := (kc_3.other (show c ≠ bP by omega) (o := 1) (.int .i64 p1))
  have kr_4 := (kr_3.other (show D ≠ bP by omega) (o := 1) (.int .i64 p1))
  have RP_4 := Lib.hid (RP_3.out.put 1 p1)
  have RE_4 := Lib.hid (RE_3.out.other n09.symm (o := 1) (.int .i64 p1))
  have RT_4 := Lib.hid (RT_3.out.other n010.symm (o := 1) (.int .i64 p1))
  have j_4 := (j_3.setCell (b := bP) (o := 1) (by omega) (.int .i64 p1))
  clear x0 c0 f0 kX_3 kc_3 kr_3 RP_3 RE_3 RT_3 j_3
  generalize (w3.setCell ⟨bP, 1, none⟩ (.int .i64 p1)) = w4 at *
  go_wp2_with fail
  rw [rounds_succ]
  go_upto_region 5 with fail
  have x0 := kX_4.cell 0
  obtain ⟨c0, f0⟩ := RP_4.out.at 2 (by simp)
  go_upto_region 6 with fail
  have kX_5 := (kX_4.other (show X ≠ bP from n012.symm) (o := 2) (.int .i64 p2))
  have kc_5 := (kc_4.other (show c ≠ bP by omega) (o := 2) (.int .i64 p2))
  have kr_5 := (kr_4.other (show D ≠ bP by omega) (o := 2) (.int .i64 p2))
  have RP_5 := Lib.hid (RP_4.out.put 2 p2)
  have RE_5 := Lib.hid (RE_4.out.other n09.symm (o := 2) (.int .i64 p2))
  have RT_5 := Lib.hid (RT_4.out.other n010.symm (o := 2) (.int .i64 p2))
  have j_5 := (j_4.setCell (b := bP) (o := 2) (by omega) (.int .i64 p2))
  clear x0 c0 f0 kX_4 kc_4 kr_4 RP_4 RE_4 RT_4 j_4
  generalize (w4.setCell ⟨bP, 2, none⟩ (.int .i64 p2)) = w5 at *
  go_wp2_with fail
  rw [rounds_succ]
  have y0 := kc_5.cell 5
  have y1 := kc_5.cell 6
  have y2 := kc_5.cell 7
  have y3 := kc_5.cell 8
  go_wp2_with fail
  clear y0 y1 y2 y3 i0 i1 i2
  have i0 : ∀ u : World, (Instr.index 85 (.agg #[.int .i64 e0, .int .i64 t0, .int .i64 e1, .int .i64 t1]) (.int .i64 0)).run Tryz.prog u = .ok (.agg #[.int .i64 e0, .int .i64 t0]) u := fun _ => by kernel_rfl
  have i1 : ∀ u : World, (Instr.index 85 (.agg #[.int .i64 e0, .int .i64 t0, .int .i64 e1, .int .i64 t1]) (.int .i64 1)).run Tryz.prog u = .ok (.agg #[.int .i64 e1, .int .i64 t1]) u := fun _ => by kernel_rfl
  refine wp_loop_rounds 3 ?_
  rw [rounds_succ]
  go_upto_region 10 with fail
  have kY : Blk (w5.alloc (.cells #[.int .i64 e0, .int .i64 t0] 84)) w5.heap.size #[.int .i64 e0, .int .i64 t0] 84 := Blk.new w5 #[.int .i64 e0, .int .i64 t0] 84 w5.heap.size rfl
  have ga := (Grew.refl w5).alloc (.cells #[.int .i64 e0, .int .i64 t0] 84)
  have hY1 := RE_5.out.lt
  have hY2 := RT_5.out.lt
  have hY3 := kX_5.lt
  have kX_6 := kX_5.grew ga
  have kc_6 := kc_5.grew ga
  have kr_6 := kr_5.grew ga
  have RP_6 := Lib.hid (RP_5.out.grew ga)
  have RE_6 := Lib.hid (RE_5.out.grew ga)
  have RT_6 := Lib.hid (RT_5.out.grew ga)
  have j_6 := j_5.trans ga
  clear ga kX_5 kc_5 kr_5 RP_5 RE_5 RT_5 j_5
  generalize (w5.alloc (.cells #[.int .i64 e0, .int .i64 t0] 84)) = w6 at *
  generalize hYn : w5.heap.size = Y at *
  clear hYn
  have x3 := kX_6.cell 3
  have x4 := kX_6.cell 4
  have y0 := kY.cell 0
  have y1 := kY.cell 1
  obtain ⟨c0, f0⟩ := RE_6.out.at 0 (by simp)
  obtain ⟨c1, f1⟩ := RT_6.out.at 0 (by simp)
  have nEY : bE ≠ Y := by omega
  have nTY : bT ≠ Y := by omega
  have nXE : X ≠ bE := n912.symm
  have nXT : X ≠ bT := n1012.symm
  have nET : bT ≠ bE := n910.symm
  refine wp_region_held_drew (S := fun w' => w'.cell? ⟨X, 3, none⟩ = some (.slice (some ⟨bE, 0, none⟩) 2 2) ∧ w'.cell? ⟨X, 4, none⟩ = some (.slice (some ⟨bT, 0, none⟩) 2 2) ∧ w'.cell? ⟨Y, 0, none⟩ = some (.int .i64 e0) ∧ w'.cell? ⟨Y, 1, none⟩ = some (.int .i64 t0)) (by kernel_rfl) (by first | assumption | go_keep) (fun hHeld => ?_)
  first
    | (refine wpAnyH_take (i := 0) (v := ?_) rfl (by kernel_rfl) (by kernel_rfl) (by kernel_rfl) (fun _ _ _ h => h) (Or.inl ⟨by rfl, ?_⟩) (by assumption) ?_; rotate_left; (intro wq hSw; (try dsimp only at hSw); go_simp; try with_reducible rfl))
    | (refine wpAnyH_take (i := 0) (v := undef) rfl (by kernel_rfl) (by kernel_rfl) (by kernel_rfl) (fun _ _ _ h => h) (Or.inr ⟨by rfl, rfl⟩) (by assumption) ?_)
  try simp only [List.getElem_toArray, List.getElem_cons_succ, List.getElem_cons_zero, Act.put, List.setIfInBounds_toArray, List.set_cons_zero, List.set_cons_succ]
  first
    | (refine wpAnyH_take (i := 1) (v := ?_) rfl (by kernel_rfl) (by kernel_rfl) (by kernel_rfl) (fun _ _ _ h => h) (Or.inl ⟨by rfl, ?_⟩) (by assumption) ?_; rotate_left; (intro wq hSw; (try dsimp only at hSw); go_simp; try with_reducible rfl))
    | (refine wpAnyH_take (i := 1) (v := undef) rfl (by kernel_rfl) (by kernel_rfl) (by kernel_rfl) (fun _ _ _ h => h) (Or.inr ⟨by rfl, rfl⟩) (by assumption) ?_)
  try simp only [List.getElem_toArray, List.getElem_cons_succ, List.getElem_cons_zero, Act.put, List.setIfInBounds_toArray, List.set_cons_zero, List.set_cons_succ]
  first
    | (refine wpAnyH_take (i := 2) (v := ?_) rfl (by kernel_rfl) (by kernel_rfl) (by kernel_rfl) (fun _ _ _ h => h) (Or.inl ⟨by rfl, ?_⟩) (by assumption) ?_; rotate_left; (intro wq hSw; (try dsimp only at hSw); go_simp; try with_reducible rfl))
    | (refine wpAnyH_take (i := 2) (v := undef) rfl (by kernel_rfl) (by kernel_rfl) (by kernel_rfl) (fun _ _ _ h => h) (Or.inr ⟨by rfl, rfl⟩) (by assumption) ?_)
  try simp only [List.getElem_toArray, List.getElem_cons_succ, List.getElem_cons_zero, Act.put, List.setIfInBounds_toArray, List.set_cons_zero, List.set_cons_succ]
  first
    | (refine wpAnyH_take (i := 3) (v := ?_) rfl (by kernel_rfl) (by kernel_rfl) (by kernel_rfl) (fun _ _ _ h => h) (Or.inl ⟨by rfl, ?_⟩) (by assumption) ?_; rotate_left; (intro wq hSw; (try dsimp only at hSw); go_simp; try with_reducible rfl))
    | (refine wpAnyH_take (i := 3) (v := undef) rfl (by kernel_rfl) (by kernel_rfl) (by kernel_rfl) (fun _ _ _ h => h) (Or.inr ⟨by rfl, rfl⟩) (by assumption) ?_)
  try simp only [List.getElem_toArray, List.getElem_cons_succ, List.getElem_cons_zero, Act.put, List.setIfInBounds_toArray, List.set_cons_zero, List.set_cons_succ]
  first
    | (refine wpAnyH_take (i := 4) (v := ?_) rfl (by kernel_rfl) (by kernel_rfl) (by kernel_rfl) (fun _ _ _ h => h) (Or.inl ⟨by rfl, ?_⟩) (by assumption) ?_; rotate_left; (intro wq hSw; (try dsimp only at hSw); go_simp; try with_reducible rfl))
    | (refine wpAnyH_take (i := 4) (v := undef) rfl (by kernel_rfl) (by kernel_rfl) (by kernel_rfl) (fun _ _ _ h => h) (Or.inr ⟨by rfl, rfl⟩) (by assumption) ?_)
  try simp only [List.getElem_toArray, List.getElem_cons_succ, List.getElem_cons_zero, Act.put, List.setIfInBounds_toArray, List.set_cons_zero, List.set_cons_succ]
  first
    | (refine wpAnyH_take (i := 5) (v := ?_) rfl (by kernel_rfl) (by kernel_rfl) (by kernel_rfl) (fun _ _ _ h => h) (Or.inl ⟨by rfl, ?_⟩) (by assumption) ?_; rotate_left; (intro wq hSw; (try dsimp only at hSw); go_simp; try with_reducible rfl))
    | (refine wpAnyH_take (i := 5) (v := undef) rfl (by kernel_rfl) (by kernel_rfl) (by kernel_rfl) (fun _ _ _ h => h) (Or.inr ⟨by rfl, rfl⟩) (by assumption) ?_)
  try simp only [List.getElem_toArray, List.getElem_cons_succ, List.getElem_cons_zero, Act.put, List.setIfInBounds_toArray, List.set_cons_zero, List.set_cons_succ]
  first
    | (refine wpAnyH_take (i := 6) (v := ?_) rfl (by kernel_rfl) (by kernel_rfl) (by kernel_rfl) (fun _ _ _ h => h) (Or.inl ⟨by rfl, ?_⟩) (by assumption) ?_; rotate_left; (intro wq hSw; (try dsimp only at hSw); go_simp; try with_reducible rfl))
    | (refine wpAnyH_take (i := 6) (v := undef) rfl (by kernel_rfl) (by kernel_rfl) (by kernel_rfl) (fun _ _ _ h => h) (Or.inr ⟨by rfl, rfl⟩) (by assumption) ?_)
  try simp only [List.getElem_toArray, List.getElem_cons_succ, List.getElem_cons_zero, Act.put, List.setIfInBounds_toArray, List.set_cons_zero, List.set_cons_succ]
  first
    | (refine wpAnyH_take (i := 7) (v := ?_) rfl (by kernel_rfl) (by kernel_rfl) (by kernel_rfl) (fun _ _ _ h => h) (Or.inl ⟨by rfl, ?_⟩) (by assumption) ?_; rotate_left; (intro wq hSw; (try dsimp only at hSw); go_simp; try with_reducible rfl))
    | (refine wpAnyH_take (i := 7) (v := undef) rfl (by kernel_rfl) (by kernel_rfl) (by kernel_rfl) (fun _ _ _ h => h) (Or.inr ⟨by rfl, rfl⟩) (by assumption) ?_)
  try simp only [List.getElem_toArray, List.getElem_cons_succ, List.getElem_cons_zero, Act.put, List.setIfInBounds_toArray, List.set_cons_zero, List.set_cons_succ]
  first
    | (refine wpAnyH_take (i := 8) (v := ?_) rfl (by kernel_rfl) (by kernel_rfl) (by kernel_rfl) (fun _ _ _ h => h) (Or.inl ⟨by rfl, ?_⟩) (by assumption) ?_; rotate_left; (intro wq hSw; (try dsimp only at hSw); go_simp; try with_reducible rfl))
    | (refine wpAnyH_take (i := 8) (v := undef) rfl (by kernel_rfl) (by kernel_rfl) (by kernel_rfl) (fun _ _ _ h => h) (Or.inr ⟨by rfl, rfl⟩) (by assumption) ?_)
  try simp only [List.getElem_toArray, List.getElem_cons_succ, List.getElem_cons_zero, Act.put, List.setIfInBounds_toArray, List.set_cons_zero, List.set_cons_succ]
  first
    | (refine wpAnyH_take (i := 9) (v := ?_) rfl (by kernel_rfl) (by kernel_rfl) (by kernel_rfl) (fun _ _ _ h => h) (Or.inl ⟨by rfl, ?_⟩) (by assumption) ?_; rotate_left; (intro wq hSw; (try dsimp only at hSw); go_simp; try with_reducible rfl))
    | (refine wpAnyH_take (i := 9) (v := undef) rfl (by kernel_rfl) (by kernel_rfl) (by kernel_rfl) (fun _ _ _ h => h) (Or.inr ⟨by rfl, rfl⟩) (by assumption) ?_)
  try simp only [List.getElem_toArray, List.getElem_cons_succ, List.getElem_cons_zero, Act.put, List.setIfInBounds_toArray, List.set_cons_zero, List.set_cons_succ]
  first
    | (refine wpAnyH_take (i := 10) (v := ?_) rfl (by kernel_rfl) (by kernel_rfl) (by kernel_rfl) (fun _ _ _ h => h) (Or.inl ⟨by rfl, ?_⟩) (by assumption) ?_; rotate_left; (intro wq hSw; (try dsimp only at hSw); go_simp; try with_reducible rfl))
    | (refine wpAnyH_take (i := 10) (v := undef) rfl (by kernel_rfl) (by kernel_rfl) (by kernel_rfl) (fun _ _ _ h => h) (Or.inr ⟨by rfl, rfl⟩) (by assumption) ?_)
  try simp only [List.getElem_toArray, List.getElem_cons_succ, List.getElem_cons_zero, Act.put, List.setIfInBounds_toArray, List.set_cons_zero, List.set_cons_succ]
  refine wpAnyH_ready (rs := [11]) (by kernel_rfl) (by simp) ?_
  refine AllReadyH.cons rfl (fun K hK => ?_) AllReadyH.nil
  go_simp
  refine hK.out _ _ (by first | assumption | go_keep) (fun hHeld => ?_)
  clear hK K
  try simp only [List.getElem_toArray, List.getElem_cons_succ, List.getElem_cons_zero, Act.put, List.setIfInBounds_toArray, List.set_cons_zero, List.set_cons_succ]
  first
    | (refine wpAnyH_take (i := 12) (v := ?_) rfl (by kernel_rfl) (by kernel_rfl) (by kernel_rfl) (fun _ _ _ h => h) (Or.inl ⟨by rfl, ?_⟩) (by assumption) ?_; rotate_left; (intro wq hSw; (try dsimp only at hSw); go_simp; try with_reducible rfl))
    | (refine wpAnyH_take (i := 12) (v := undef) rfl (by kernel_rfl) (by kernel_rfl) (by kernel_rfl) (fun _ _ _ h => h) (Or.inr ⟨by rfl, rfl⟩) (by assumption) ?_)
  try simp only [List.getElem_toArray, List.getElem_cons_succ, List.getElem_cons_zero, Act.put, List.setIfInBounds_toArray, List.set_cons_zero, List.set_cons_succ]
  refine wpAnyH_ready (rs := [13]) (by kernel_rfl) (by simp) ?_
  refine AllReadyH.cons rfl (fun K hK => ?_) AllReadyH.nil
  go_simp
  refine hK.out _ _ (by first | assumption | go_keep) (fun hHeld => ?_)
  clear hK K
  try simp only [List.getElem_toArray, List.getElem_cons_succ, List.getElem_cons_zero, Act.put, List.setIfInBounds_toArray, List.set_cons_zero, List.set_cons_succ]
  refine wpAnyH_done (by kernel_rfl) ?_ _
  try simp only [List.getElem_toArray, List.getElem_cons_succ, List.getElem_cons_zero, Act.put, List.setIfInBounds_toArray, List.set_cons_zero, List.set_cons_succ]
  clear hHeld
  go_upto_region 11 with fail
  have kX_7 := ((kX_6.other (show X ≠ bE from n912.symm) (o := 0) (.int .i64 e0)).other (show X ≠ bT from n1012.symm) (o := 0) (.int .i64 t0)).drew
  have kc_7 := ((kc_6.other (show c ≠ bE by omega) (o := 0) (.int .i64 e0)).other (show c ≠ bT by omega) (o := 0) (.int .i64 t0)).drew
  have kr_7 := ((kr_6.other (show D ≠ bE by omega) (o := 0) (.int .i64 e0)).other (show D ≠ bT by omega) (o := 0) (.int .i64 t0)).drew
  have RP_7 := Lib.hid (((RP_6.out.other n09 (o := 0) (.int .i64 e0)).other n010 (o := 0) (.int .i64 t0)).grew (Grew.refl _).drew1)
  have RE_7 := Lib.hid (((RE_6.out.put 0 e0).other n910 (o := 0) (.int .i64 t0)).grew (Grew.refl _).drew1)
  have RT_7 := Lib.hid (((RT_6.out.other n910.symm (o := 0) (.int .i64 e0)).put 0 t0).grew (Grew.refl _).drew1)
  have j_7 := ((j_6.setCell (b := bE) (o := 0) (by omega) (.int .i64 e0)).setCell (b := bT) (o := 0) (by omega) (.int .i64 t0)).drew1
  clear x3 x4 y0 y1 c0 c1 f0 f1 nEY nTY nXE nXT nET kY hY1 hY2 hY3 kX_6 kc_6 kr_6 RP_6 RE_6 RT_6 j_6
  generalize ((w6.setCell ⟨bE, 0, none⟩ (.int .i64 e0)).setCell ⟨bT, 0, none⟩ (.int .i64 t0)).drew = w7 at *
  go_wp2_with fail
  rw [rounds_succ]
  go_upto_region 10 with fail
  have kY : Blk (w7.alloc (.cells #[.int .i64 e1, .int .i64 t1] 84)) w7.heap.size #[.int .i64 e1, .int .i64 t1] 84 := Blk.new w7 #[.int .i64 e1, .int .i64 t1] 84 w7.heap.size rfl
  have ga := (Grew.refl w7).alloc (.cells #[.int .i64 e1, .int .i64 t1] 84)
  have hY1 := RE_7.out.lt
  have hY2 := RT_7.out.lt
  have hY3 := kX_7.lt
  have kX_8 := kX_7.grew ga
  have kc_8 := kc_7.grew ga
  have kr_8 := kr_7.grew ga
  have RP_8 := Lib.hid (RP_7.out.grew ga)
  have RE_8 := Lib.hid (RE_7.out.grew ga)
  have RT_8 := Lib.hid (RT_7.out.grew ga)
  have j_8 := j_7.trans ga
  clear ga kX_7 kc_7 kr_7 RP_7 RE_7 RT_7 j_7
  generalize (w7.alloc (.cells #[.int .i64 e1, .int .i64 t1] 84)) = w8 at *
  generalize hYn : w7.heap.size = Y at *
  clear hYn
  have x3 := kX_8.cell 3
  have x4 := kX_8.cell 4
  have y0 := kY.cell 0
  have y1 := kY.cell 1
  obtain ⟨c0, f0⟩ := RE_8.out.at 1 (by simp)
  obtain ⟨c1, f1⟩ := RT_8.out.at 1 (by simp)
  have nEY : bE ≠ Y := by omega
  have nTY : bT ≠ Y := by omega
  have nXE : X ≠ bE := n912.symm
  have nXT : X ≠ bT := n1012.symm
  have nET : bT ≠ bE := n910.symm
  refine wp_region_held_drew (S := fun w' => w'.cell? ⟨X, 3, none⟩ = some (.slice (some ⟨bE, 0, none⟩) 2 2) ∧ w'.cell? ⟨X, 4, none⟩ = some (.slice (some ⟨bT, 0, none⟩) 2 2) ∧ w'.cell? ⟨Y, 0, none⟩ = some (.int .i64 e1) ∧ w'.cell? ⟨Y, 1, none⟩ = some (.int .i64 t1)) (by kernel_rfl) (by first | assumption | go_keep) (fun hHeld => ?_)
  first
    | (refine wpAnyH_take (i := 0) (v := ?_) rfl (by kernel_rfl) (by kernel_rfl) (by kernel_rfl) (fun _ _ _ h => h) (Or.inl ⟨by rfl, ?_⟩) (by assumption) ?_; rotate_left; (intro wq hSw; (try dsimp only at hSw); go_simp; try with_reducible rfl))
    | (refine wpAnyH_take (i := 0) (v := undef) rfl (by kernel_rfl) (by kernel_rfl) (by kernel_rfl) (fun _ _ _ h => h) (Or.inr ⟨by rfl, rfl⟩) (by assumption) ?_)
  try simp only [List.getElem_toArray, List.getElem_cons_succ, List.getElem_cons_zero, Act.put, List.setIfInBounds_toArray, List.set_cons_zero, List.set_cons_succ]
  first
    | (refine wpAnyH_take (i := 1) (v := ?_) rfl (by kernel_rfl) (by kernel_rfl) (by kernel_rfl) (fun _ _ _ h => h) (Or.inl ⟨by rfl, ?_⟩) (by assumption) ?_; rotate_left; (intro wq hSw; (try dsimp only at hSw); go_simp; try with_reducible rfl))
    | (refine wpAnyH_take (i := 1) (v := undef) rfl (by kernel_rfl) (by kernel_rfl) (by kernel_rfl) (fun _ _ _ h => h) (Or.inr ⟨by rfl, rfl⟩) (by assumption) ?_)
  try simp only [List.getElem_toArray, List.getElem_cons_succ, List.getElem_cons_zero, Act.put, List.setIfInBounds_toArray, List.set_cons_zero, List.set_cons_succ]
  first
    | (refine wpAnyH_take (i := 2) (v := ?_) rfl (by kernel_rfl) (by kernel_rfl) (by kernel_rfl) (fun _ _ _ h => h) (Or.inl ⟨by rfl, ?_⟩) (by assumption) ?_; rotate_left; (intro wq hSw; (try dsimp only at hSw); go_simp; try with_reducible rfl))
    | (refine wpAnyH_take (i := 2) (v := undef) rfl (by kernel_rfl) (by kernel_rfl) (by kernel_rfl) (fun _ _ _ h => h) (Or.inr ⟨by rfl, rfl⟩) (by assumption) ?_)
  try simp only [List.getElem_toArray, List.getElem_cons_succ, List.getElem_cons_zero, Act.put, List.setIfInBounds_toArray, List.set_cons_zero, List.set_cons_succ]
  first
    | (refine wpAnyH_take (i := 3) (v := ?_) rfl (by kernel_rfl) (by kernel_rfl) (by kernel_rfl) (fun _ _ _ h => h) (Or.inl ⟨by rfl, ?_⟩) (by assumption) ?_; rotate_left; (intro wq hSw; (try dsimp only at hSw); go_simp; try with_reducible rfl))
    | (refine wpAnyH_take (i := 3) (v := undef) rfl (by kernel_rfl) (by kernel_rfl) (by kernel_rfl) (fun _ _ _ h => h) (Or.inr ⟨by rfl, rfl⟩) (by assumption) ?_)
  try simp only [List.getElem_toArray, List.getElem_cons_succ, List.getElem_cons_zero, Act.put, List.setIfInBounds_toArray, List.set_cons_zero, List.set_cons_succ]
  first
    | (refine wpAnyH_take (i := 4) (v := ?_) rfl (by kernel_rfl) (by kernel_rfl) (by kernel_rfl) (fun _ _ _ h => h) (Or.inl ⟨by rfl, ?_⟩) (by assumption) ?_; rotate_left; (intro wq hSw; (try dsimp only at hSw); go_simp; try with_reducible rfl))
    | (refine wpAnyH_take (i := 4) (v := undef) rfl (by kernel_rfl) (by kernel_rfl) (by kernel_rfl) (fun _ _ _ h => h) (Or.inr ⟨by rfl, rfl⟩) (by assumption) ?_)
  try simp only [List.getElem_toArray, List.getElem_cons_succ, List.getElem_cons_zero, Act.put, List.setIfInBounds_toArray, List.set_cons_zero, List.set_cons_succ]
  first
    | (refine wpAnyH_take (i := 5) (v := ?_) rfl (by kernel_rfl) (by kernel_rfl) (by kernel_rfl) (fun _ _ _ h => h) (Or.inl ⟨by rfl, ?_⟩) (by assumption) ?_; rotate_left; (intro wq hSw; (try dsimp only at hSw); go_simp; try with_reducible rfl))
    | (refine wpAnyH_take (i := 5) (v := undef) rfl (by kernel_rfl) (by kernel_rfl) (by kernel_rfl) (fun _ _ _ h => h) (Or.inr ⟨by rfl, rfl⟩) (by assumption) ?_)
  try simp only [List.getElem_toArray, List.getElem_cons_succ, List.getElem_cons_zero, Act.put, List.setIfInBounds_toArray, List.set_cons_zero, List.set_cons_succ]
  first
    | (refine wpAnyH_take (i := 6) (v := ?_) rfl (by kernel_rfl) (by kernel_rfl) (by kernel_rfl) (fun _ _ _ h => h) (Or.inl ⟨by rfl, ?_⟩) (by assumption) ?_; rotate_left; (intro wq hSw; (try dsimp only at hSw); go_simp; try with_reducible rfl))
    | (refine wpAnyH_take (i := 6) (v := undef) rfl (by kernel_rfl) (by kernel_rfl) (by kernel_rfl) (fun _ _ _ h => h) (Or.inr ⟨by rfl, rfl⟩) (by assumption) ?_)
  try simp only [List.getElem_toArray, List.getElem_cons_succ, List.getElem_cons_zero, Act.put, List.setIfInBounds_toArray, List.set_cons_zero, List.set_cons_succ]
  first
    | (refine wpAnyH_take (i := 7) (v := ?_) rfl (by kernel_rfl) (by kernel_rfl) (by kernel_rfl) (fun _ _ _ h => h) (Or.inl ⟨by rfl, ?_⟩) (by assumption) ?_; rotate_left; (intro wq hSw; (try dsimp only at hSw); go_simp; try with_reducible rfl))
    | (refine wpAnyH_take (i := 7) (v := undef) rfl (by kernel_rfl) (by kernel_rfl) (by kernel_rfl) (fun _ _ _ h => h) (Or.inr ⟨by rfl, rfl⟩) (by assumption) ?_)
  try simp only [List.getElem_toArray, List.getElem_cons_succ, List.getElem_cons_zero, Act.put, List.setIfInBounds_toArray, List.set_cons_zero, List.set_cons_succ]
  first
    | (refine wpAnyH_take (i := 8) (v := ?_) rfl (by kernel_rfl) (by kernel_rfl) (by kernel_rfl) (fun _ _ _ h => h) (Or.inl ⟨by rfl, ?_⟩) (by assumption) ?_; rotate_left; (intro wq hSw; (try dsimp only at hSw); go_simp; try with_reducible rfl))
    | (refine wpAnyH_take (i := 8) (v := undef) rfl (by kernel_rfl) (by kernel_rfl) (by kernel_rfl) (fun _ _ _ h => h) (Or.inr ⟨by rfl, rfl⟩) (by assumption) ?_)
  try simp only [List.getElem_toArray, List.getElem_cons_succ, List.getElem_cons_zero, Act.put, List.setIfInBounds_toArray, List.set_cons_zero, List.set_cons_succ]
  first
    | (refine wpAnyH_take (i := 9) (v := ?_) rfl (by kernel_rfl) (by kernel_rfl) (by kernel_rfl) (fun _ _ _ h => h) (Or.inl ⟨by rfl, ?_⟩) (by assumption) ?_; rotate_left; (intro wq hSw; (try dsimp only at hSw); go_simp; try with_reducible rfl))
    | (refine wpAnyH_take (i := 9) (v := undef) rfl (by kernel_rfl) (by kernel_rfl) (by kernel_rfl) (fun _ _ _ h => h) (Or.inr ⟨by rfl, rfl⟩) (by assumption) ?_)
  try simp only [List.getElem_toArray, List.getElem_cons_succ, List.getElem_cons_zero, Act.put, List.setIfInBounds_toArray, List.set_cons_zero, List.set_cons_succ]
  first
    | (refine wpAnyH_take (i := 10) (v := ?_) rfl (by kernel_rfl) (by kernel_rfl) (by kernel_rfl) (fun _ _ _ h => h) (Or.inl ⟨by rfl, ?_⟩) (by assumption) ?_; rotate_left; (intro wq hSw; (try dsimp only at hSw); go_simp; try with_reducible rfl))
    | (refine wpAnyH_take (i := 10) (v := undef) rfl (by kernel_rfl) (by kernel_rfl) (by kernel_rfl) (fun _ _ _ h => h) (Or.inr ⟨by rfl, rfl⟩) (by assumption) ?_)
  try simp only [List.getElem_toArray, List.getElem_cons_succ, List.getElem_cons_zero, Act.put, List.setIfInBounds_toArray, List.set_cons_zero, List.set_cons_succ]
  refine wpAnyH_ready (rs := [11]) (by kernel_rfl) (by simp) ?_
  refine AllReadyH.cons rfl (fun K hK => ?_) AllReadyH.nil
  go_simp
  refine hK.out _ _ (by first | assumption | go_keep) (fun hHeld => ?_)
  clear hK K
  try simp only [List.getElem_toArray, List.getElem_cons_succ, List.getElem_cons_zero, Act.put, List.setIfInBounds_toArray, List.set_cons_zero, List.set_cons_succ]
  first
    | (refine wpAnyH_take (i := 12) (v := ?_) rfl (by kernel_rfl) (by kernel_rfl) (by kernel_rfl) (fun _ _ _ h => h) (Or.inl ⟨by rfl, ?_⟩) (by assumption) ?_; rotate_left; (intro wq hSw; (try dsimp only at hSw); go_simp; try with_reducible rfl))
    | (refine wpAnyH_take (i := 12) (v := undef) rfl (by kernel_rfl) (by kernel_rfl) (by kernel_rfl) (fun _ _ _ h => h) (Or.inr ⟨by rfl, rfl⟩) (by assumption) ?_)
  try simp only [List.getElem_toArray, List.getElem_cons_succ, List.getElem_cons_zero, Act.put, List.setIfInBounds_toArray, List.set_cons_zero, List.set_cons_succ]
  refine wpAnyH_ready (rs := [13]) (by kernel_rfl) (by simp) ?_
  refine AllReadyH.cons rfl (fun K hK => ?_) AllReadyH.nil
  go_simp
  refine hK.out _ _ (by first | assumption | go_keep) (fun hHeld => ?_)
  clear hK K
  try simp only [List.getElem_toArray, List.getElem_cons_succ, List.getElem_cons_zero, Act.put, List.setIfInBounds_toArray, List.set_cons_zero, List.set_cons_succ]
  refine wpAnyH_done (by kernel_rfl) ?_ _
  try simp only [List.getElem_toArray, List.getElem_cons_succ, List.getElem_cons_zero, Act.put, List.setIfInBounds_toArray, List.set_cons_zero, List.set_cons_succ]
  clear hHeld
  go_upto_region 11 with fail
  have kX_9 := ((kX_8.other (show X ≠ bE from n912.symm) (o := 1) (.int .i64 e1)).other (show X ≠ bT from n1012.symm) (o := 1) (.int .i64 t1)).drew
  have kc_9 := ((kc_8.other (show c ≠ bE by omega) (o := 1) (.int .i64 e1)).other (show c ≠ bT by omega) (o := 1) (.int .i64 t1)).drew
  have kr_9 := ((kr_8.other (show D ≠ bE by omega) (o := 1) (.int .i64 e1)).other (show D ≠ bT by omega) (o := 1) (.int .i64 t1)).drew
  have RP_9 := Lib.hid (((RP_8.out.other n09 (o := 1) (.int .i64 e1)).other n010 (o := 1) (.int .i64 t1)).grew (Grew.refl _).drew1)
  have RE_9 := Lib.hid (((RE_8.out.put 1 e1).other n910 (o := 1) (.int .i64 t1)).grew (Grew.refl _).drew1)
  have RT_9 := Lib.hid (((RT_8.out.other n910.symm (o := 1) (.int .i64 e1)).put 1 t1).grew (Grew.refl _).drew1)
  have j_9 := ((j_8.setCell (b := bE) (o := 1) (by omega) (.int .i64 e1)).setCell (b := bT) (o := 1) (by omega) (.int .i64 t1)).drew1
  clear x3 x4 y0 y1 c0 c1 f0 f1 nEY nTY nXE nXT nET kY hY1 hY2 hY3 kX_8 kc_8 kr_8 RP_8 RE_8 RT_8 j_8
  generalize ((w8.setCell ⟨bE, 1, none⟩ (.int .i64 e1)).setCell ⟨bT, 1, none⟩ (.int .i64 t1)).drew = w9 at *
  go_wp2_with fail
  rw [rounds_succ]
  have e_0 := kX_9.cell 0
  have e_1 := kX_9.cell 1
  have e_2 := kX_9.cell 2
  have e_3 := kX_9.cell 3
  have e_4 := kX_9.cell 4
  have d_0 := kr_9.cell 0
  have d_1 := kr_9.cell 1
  have d_2 := kr_9.cell 2
  have d_3 := kr_9.cell 3
  have d_4 := kr_9.cell 4
  have f_0 := kr_9.free 0
  have f_1 := kr_9.free 1
  have f_2 := kr_9.free 2
  have f_3 := kr_9.free 3
  have f_4 := kr_9.free 4
  go_wp2_with fail
  have kz := (((((kr_9.set (o := 0) (.slice (some ⟨bP, 0, none⟩) 3 3)).set (o := 1) (.int .i64 n)).set (o := 2) (.int .i64 k)).set (o := 3) (.slice (some ⟨bE, 0, none⟩) 2 2)).set (o := 4) (.slice (some ⟨bT, 0, none⟩) 2 2))
  have gz := (((((j_9.setCell (b := D) (o := 0) (by omega) (.slice (some ⟨bP, 0, none⟩) 3 3)).setCell (b := D) (o := 1) (by omega) (.int .i64 n)).setCell (b := D) (o := 2) (by omega) (.int .i64 k)).setCell (b := D) (o := 3) (by omega) (.slice (some ⟨bE, 0, none⟩) 2 2)).setCell (b := D) (o := 4) (by omega) (.slice (some ⟨bT, 0, none⟩) 2 2))
  have U1 := (((((RP_9.out.other (show bP ≠ D by omega) (o := 0) (.slice (some ⟨bP, 0, none⟩) 3 3)).other (show bP ≠ D by omega) (o := 1) (.int .i64 n)).other (show bP ≠ D by omega) (o := 2) (.int .i64 k)).other (show bP ≠ D by omega) (o := 3) (.slice (some ⟨bE, 0, none⟩) 2 2)).other (show bP ≠ D by omega) (o := 4) (.slice (some ⟨bT, 0, none⟩) 2 2))
  have U2 := (((((RE_9.out.other (show bE ≠ D by omega) (o := 0) (.slice (some ⟨bP, 0, none⟩) 3 3)).other (show bE ≠ D by omega) (o := 1) (.int .i64 n)).other (show bE ≠ D by omega) (o := 2) (.int .i64 k)).other (show bE ≠ D by omega) (o := 3) (.slice (some ⟨bE, 0, none⟩) 2 2)).other (show bE ≠ D by omega) (o := 4) (.slice (some ⟨bT, 0, none⟩) 2 2))
  have U3 := (((((RT_9.out.other (show bT ≠ D by omega) (o := 0) (.slice (some ⟨bP, 0, none⟩) 3 3)).other (show bT ≠ D by omega) (o := 1) (.int .i64 n)).other (show bT ≠ D by omega) (o := 2) (.int .i64 k)).other (show bT ≠ D by omega) (o := 3) (.slice (some ⟨bE, 0, none⟩) 2 2)).other (show bT ≠ D by omega) (o := 4) (.slice (some ⟨bT, 0, none⟩) 2 2))
  clear e_0 e_1 e_2 e_3 e_4 d_0 d_1 d_2 d_3 d_4 f_0 f_1 f_2 f_3 f_4
  generalize (((((w9.setCell ⟨D, 0, none⟩ (.slice (some ⟨bP, 0, none⟩) 3 3)).setCell ⟨D, 1, none⟩ (.int .i64 n)).setCell ⟨D, 2, none⟩ (.int .i64 k)).setCell ⟨D, 3, none⟩ (.slice (some ⟨bE, 0, none⟩) 2 2)).setCell ⟨D, 4, none⟩ (.slice (some ⟨bT, 0, none⟩) 2 2)) = wz' at *
  have t_0 := kz.cell 0
  have t_1 := kz.cell 1
  have t_2 := kz.cell 2
  have t_3 := kz.cell 3
  have t_4 := kz.cell 4
  have lo : w.heap.size ≤ S0 := by omega
  refine bodyPost_ret (v := .agg #[.slice (some ⟨bP, 0, none⟩) 3 3, .int .i64 n, .int .i64 k, .slice (some ⟨bE, 0, none⟩) 2 2, .slice (some ⟨bT, 0, none⟩) 2 2]) (by simp [results, Tryz.results39, go_sem, t_0, t_1, t_2, t_3, t_4]) rfl ⟨_, rfl, Lib.hid ⟨⟨_, _, _, rfl, U1.low lo, U2.low lo, U3.low lo⟩, HO.out.1, HO.out.2.1, HO.out.2.2.1, HO.out.2.2.2.1, HO.out.2.2.2.2⟩, g.trans gz⟩
end Go.Proofs.YtgcfmijkggpemaaGreat
