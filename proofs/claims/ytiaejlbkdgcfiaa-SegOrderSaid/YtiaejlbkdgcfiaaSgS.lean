/-
  The document's Same of two rows of one segment each, which read alike; a row of one.
-/
import Derived.Test.YtiaejlbkdgcfiaaSgG
import Derived.Test.YtiaejlbkdgcfiaaBufW
set_option maxRecDepth 4000
set_option linter.unusedVariables false
set_option linter.unusedSimpArgs false
namespace Go.Proofs.Ytiaejlbkdgcfiaa
open Go.RowKit Go.ChangeShapes Go.WideShapes

theorem open_seg {H : Type} {enc : TypeId × Value → H} {w : World} {base : Nat} {spare : Nat → Bool} {held : Bool} {r : Reach} {b0 : Nat} {v : Value} {D : DataW H} {p : List MemPlace} (hv : Value.okWide Try.prog w r b0 25 v) (h : DataW.Trod enc Try.prog w base spare held 25 v D p) :
    ∃ f : SGR, Sg w v f ∧ ((∀ m ∈ D.weights Try.prog 25, m ≤ reachBytes) → f.x.length ≤ 140737488355328) := by
  have hs := Try.underlying25
  obtain ⟨⟨l⟩, rfl, hsz⟩ := okWide_struct hs hv
  rw [show Try.prog.cellsOf 25 = 8 by kernel_rfl] at hsz
  obtain ⟨fuel, hf⟩ := h
  obtain ⟨xs, n, _, hx, _, hl, hg⟩ := DataW.trod_struct hs hf
  have k0 : Try.prog.cellsOf 3 = 1 := by kernel_rfl
  have k1 : Try.prog.cellsOf 22 = 1 := by kernel_rfl
  have k2 : Try.prog.cellsOf 23 = 1 := by kernel_rfl
  match l, hsz, xs, hl with
  | [c0, c1, c2, c3, c4, c5, c6, c7], _, [y0, y1, y2, y3, y4, y5, y6, y7], _ =>
    have g0 : DataW.trod enc Try.prog w base spare held n 3 [c0] = some y0 := by
      have := hg 0 _ rfl
      simpa [Value.cells, k0, k1, k2] using this
    have g1 : DataW.trod enc Try.prog w base spare held n 3 [c1] = some y1 := by
      have := hg 1 _ rfl
      simpa [Value.cells, k0, k1, k2] using this
    have g2 : DataW.trod enc Try.prog w base spare held n 22 [c2] = some y2 := by
      have := hg 2 _ rfl
      simpa [Value.cells, k0, k1, k2] using this
    have g3 : DataW.trod enc Try.prog w base spare held n 22 [c3] = some y3 := by
      have := hg 3 _ rfl
      simpa [Value.cells, k0, k1, k2] using this
    have g4 : DataW.trod enc Try.prog w base spare held n 3 [c4] = some y4 := by
      have := hg 4 _ rfl
      simpa [Value.cells, k0, k1, k2] using this
    have g5 : DataW.trod enc Try.prog w base spare held n 3 [c5] = some y5 := by
      have := hg 5 _ rfl
      simpa [Value.cells, k0, k1, k2] using this
    have g6 : DataW.trod enc Try.prog w base spare held n 3 [c6] = some y6 := by
      have := hg 6 _ rfl
      simpa [Value.cells, k0, k1, k2] using this
    have g7 : DataW.trod enc Try.prog w base spare held n 23 [c7] = some y7 := by
      have := hg 7 _ rfl
      simpa [Value.cells, k0, k1, k2] using this
    obtain ⟨n0, e0, _, w0⟩ := DataW.trod_int Try.underlying3 g0
    obtain rfl : c0 = _ := by simpa using e0
    obtain ⟨n1, e1, _, w1⟩ := DataW.trod_int Try.underlying3 g1
    obtain rfl : c1 = _ := by simpa using e1
    obtain ⟨n2, e2, _, w2⟩ := DataW.trod_int Try.underlying22 g2
    obtain rfl : c2 = _ := by simpa using e2
    obtain ⟨n3, e3, _, w3⟩ := DataW.trod_int Try.underlying22 g3
    obtain rfl : c3 = _ := by simpa using e3
    obtain ⟨n4, e4, _, w4⟩ := DataW.trod_int Try.underlying3 g4
    obtain rfl : c4 = _ := by simpa using e4
    obtain ⟨n5, e5, _, w5⟩ := DataW.trod_int Try.underlying3 g5
    obtain rfl : c5 = _ := by simpa using e5
    obtain ⟨n6, e6, _, w6⟩ := DataW.trod_int Try.underlying3 g6
    obtain rfl : c6 = _ := by simpa using e6
    obtain ⟨x7, b7', w7⟩ := buf_of_trod_w Try.underlying23 Try.underlying5 (by kernel_rfl) g7
    obtain ⟨a7, q7, rfl, _, _⟩ := b7'.shape
    refine ⟨_, Sg.of b7' (wf_i64 w0) (wf_i64 w1) (wf_u32 w2) (wf_u32 w3) (wf_i64 w4) (wf_i64 w5) (wf_i64 w6), fun hw => ?_⟩
    have hD : D = .agg [y0.1, y1.1, y2.1, y3.1, y4.1, y5.1, y6.1, y7.1] := by have := congrArg Prod.fst hx; simpa using this
    have hin : ∀ (j : Nat) (t : TypeId) (d : DataW H), [3, 3, 22, 22, 3, 3, 3, 23][j]? = some t → [y0.1, y1.1, y2.1, y3.1, y4.1, y5.1, y6.1, y7.1][j]? = some d → ∀ m ∈ d.weights Try.prog t, m ≤ reachBytes := fun j t d h1 h2 m hm => by
      refine hw m ?_
      rw [hD]
      simp only [DataW.weights, hs]
      exact DataW.weights_mem_each h1 h2 m hm
    have kb : Try.prog.bytesOf 5 = 1 := by kernel_rfl
    have r7 := w7 reachBytes (hin 7 _ _ rfl rfl)
    rw [kb] at r7
    unfold reachBytes at r7
    exact (by show x7.length ≤ _; omega)
set_option maxHeartbeats 4000000 in
theorem same19_c {A B : Nat} {f : SGR} {sp1 : Option Addr} {sk1 : Nat} {tp1 : Option Addr} {tk1 : Nat} {T1 T2 : TypeId} {w : World} (hA : Blk w A #[.int .i64 f.s, .int .i64 f.d, .int .u32 f.q, .int .u32 f.a, .int .i64 f.fl, .int .i64 f.wn, .int .i64 f.m, .slice sp1 f.x.length sk1] T1) (hB : Blk w B #[.int .i64 f.s, .int .i64 f.d, .int .u32 f.q, .int .u32 f.a, .int .i64 f.fl, .int .i64 f.wn, .int .i64 f.m, .slice tp1 f.x.length tk1] T2)
    (hs1 : Buf w (.slice sp1 f.x.length sk1) f.x) (ht1 : Buf w (.slice tp1 f.x.length tk1) f.x) :
    Calls Try.prog 13 #[.slice (some ⟨A, 0, none⟩) 1 1, .slice (some ⟨B, 0, none⟩) 1 1] w fun e w' => e = .returned (.bool true) ∧ Grew w w' := by
  have HS1 := Lib.hid hs1
  have HT1 := Lib.hid ht1
  clear hs1 ht1
  go_enter Try.func13, Try.ntmps13
  go_upto_region 4 with fail
  refine wp_loop_rounds 2 ?_
  rw [rounds_succ]
  go_upto_region 6 with fail
  refine wp_region_held_drew (S := fun w' => Grew w w') (by kernel_rfl) ((Grew.refl w).drew1) (fun hHeld => ?_)
  replace hHeld : Grew w w.drew := hHeld
  generalize w.drew = wq0 at *
  refine wpAnyH_take (i := 0) (v := ?_) rfl (by kernel_rfl) (by kernel_rfl) (by kernel_rfl) (fun _ _ _ h => h) (Or.inl ⟨by rfl, ?_⟩) hHeld ?_
  rotate_left
  · intro wq hSw
    replace hSw : Grew w wq := hSw
    go_simp
    try with_reducible rfl
  try simp only [List.getElem_toArray, List.getElem_cons_succ, List.getElem_cons_zero, Act.put, List.setIfInBounds_toArray, List.set_cons_zero, List.set_cons_succ]
  refine wpAnyH_take (i := 1) (v := ?_) rfl (by kernel_rfl) (by kernel_rfl) (by kernel_rfl) (fun _ _ _ h => h) (Or.inl ⟨by rfl, ?_⟩) hHeld ?_
  rotate_left
  · intro wq hSw
    replace hSw : Grew w wq := hSw
    go_simp
    try with_reducible rfl
  try simp only [List.getElem_toArray, List.getElem_cons_succ, List.getElem_cons_zero, Act.put, List.setIfInBounds_toArray, List.set_cons_zero, List.set_cons_succ]
  refine wpAnyH_take (i := 2) (v := ?_) rfl (by kernel_rfl) (by kernel_rfl) (by kernel_rfl) (fun _ _ _ h => h) (Or.inl ⟨by rfl, ?_⟩) hHeld ?_
  rotate_left
  · intro wq hSw
    replace hSw : Grew w wq := hSw
    go_simp
    try with_reducible rfl
  try simp only [List.getElem_toArray, List.getElem_cons_succ, List.getElem_cons_zero, Act.put, List.setIfInBounds_toArray, List.set_cons_zero, List.set_cons_succ]
  refine wpAnyH_take (i := 3) (v := ?_) rfl (by kernel_rfl) (by kernel_rfl) (by kernel_rfl) (fun _ _ _ h => h) (Or.inl ⟨by rfl, ?_⟩) hHeld ?_
  rotate_left
  · intro wq hSw
    replace hSw : Grew w wq := hSw
    have ya0 := (hA.grew hSw).cell 0
    have ya1 := (hA.grew hSw).cell 1
    have ya2 := (hA.grew hSw).cell 2
    have ya3 := (hA.grew hSw).cell 3
    have ya4 := (hA.grew hSw).cell 4
    have ya5 := (hA.grew hSw).cell 5
    have ya6 := (hA.grew hSw).cell 6
    have ya7 := (hA.grew hSw).cell 7
    go_simp
    try with_reducible rfl
  try simp only [List.getElem_toArray, List.getElem_cons_succ, List.getElem_cons_zero, Act.put, List.setIfInBounds_toArray, List.set_cons_zero, List.set_cons_succ]
  refine wpAnyH_take (i := 4) (v := ?_) rfl (by kernel_rfl) (by kernel_rfl) (by kernel_rfl) (fun _ _ _ h => h) (Or.inl ⟨by rfl, ?_⟩) hHeld ?_
  rotate_left
  · intro wq hSw
    replace hSw : Grew w wq := hSw
    go_simp
    try with_reducible rfl
  try simp only [List.getElem_toArray, List.getElem_cons_succ, List.getElem_cons_zero, Act.put, List.setIfInBounds_toArray, List.set_cons_zero, List.set_cons_succ]
  refine wpAnyH_take (i := 5) (v := ?_) rfl (by kernel_rfl) (by kernel_rfl) (by kernel_rfl) (fun _ _ _ h => h) (Or.inl ⟨by rfl, ?_⟩) hHeld ?_
  rotate_left
  · intro wq hSw
    replace hSw : Grew w wq := hSw
    go_simp
    try with_reducible rfl
  try simp only [List.getElem_toArray, List.getElem_cons_succ, List.getElem_cons_zero, Act.put, List.setIfInBounds_toArray, List.set_cons_zero, List.set_cons_succ]
  refine wpAnyH_take (i := 6) (v := ?_) rfl (by kernel_rfl) (by kernel_rfl) (by kernel_rfl) (fun _ _ _ h => h) (Or.inl ⟨by rfl, ?_⟩) hHeld ?_
  rotate_left
  · intro wq hSw
    replace hSw : Grew w wq := hSw
    go_simp
    try with_reducible rfl
  try simp only [List.getElem_toArray, List.getElem_cons_succ, List.getElem_cons_zero, Act.put, List.setIfInBounds_toArray, List.set_cons_zero, List.set_cons_succ]
  refine wpAnyH_take (i := 7) (v := ?_) rfl (by kernel_rfl) (by kernel_rfl) (by kernel_rfl) (fun _ _ _ h => h) (Or.inl ⟨by rfl, ?_⟩) hHeld ?_
  rotate_left
  · intro wq hSw
    replace hSw : Grew w wq := hSw
    have yb0 := (hB.grew hSw).cell 0
    have yb1 := (hB.grew hSw).cell 1
    have yb2 := (hB.grew hSw).cell 2
    have yb3 := (hB.grew hSw).cell 3
    have yb4 := (hB.grew hSw).cell 4
    have yb5 := (hB.grew hSw).cell 5
    have yb6 := (hB.grew hSw).cell 6
    have yb7 := (hB.grew hSw).cell 7
    go_simp
    try with_reducible rfl
  try simp only [List.getElem_toArray, List.getElem_cons_succ, List.getElem_cons_zero, Act.put, List.setIfInBounds_toArray, List.set_cons_zero, List.set_cons_succ]
  refine wpAnyH_ready (rs := [8, 9]) (by kernel_rfl) (by simp) ?_
  refine AllReadyH.cons rfl (fun K hK => ?_) (AllReadyH.cons rfl (fun K hK => ?_) AllReadyH.nil)
  · go_simp
    have lX := hHeld.size
    have hX : Blk (wq0.alloc (.cells #[.int .i64 0, .int .i64 0, .int .u32 0, .int .u32 0, .int .i64 0, .int .i64 0, .int .i64 0, .slice none 0 0] 25)) wq0.heap.size #[.int .i64 0, .int .i64 0, .int .u32 0, .int .u32 0, .int .i64 0, .int .i64 0, .int .i64 0, .slice none 0 0] 25 := Blk.new _ _ _ _ rfl
    have gk1 : Grew wq0 (wq0.alloc (.cells #[.int .i64 0, .int .i64 0, .int .u32 0, .int .u32 0, .int .i64 0, .int .i64 0, .int .i64 0, .slice none 0 0] 25)) := (Grew.refl _).alloc _
    generalize (wq0.alloc (.cells #[.int .i64 0, .int .i64 0, .int .u32 0, .int .u32 0, .int .i64 0, .int .i64 0, .int .i64 0, .slice none 0 0] 25)) = wk1 at *
    generalize wq0.heap.size = X at *
    refine hK.out _ _ (hHeld.trans gk1) (fun hHeld => ?_)
    clear hK K
    try simp only [List.getElem_toArray, List.getElem_cons_succ, List.getElem_cons_zero, Act.put, List.setIfInBounds_toArray, List.set_cons_zero, List.set_cons_succ]
    refine wpAnyH_ready (rs := [9]) (by kernel_rfl) (by simp) ?_
    refine AllReadyH.cons rfl (fun K hK => ?_) AllReadyH.nil
    go_simp
    have lY := hHeld.size
    have hY : Blk (wk1.alloc (.cells #[.int .i64 0, .int .i64 0, .int .u32 0, .int .u32 0, .int .i64 0, .int .i64 0, .int .i64 0, .slice none 0 0] 25)) wk1.heap.size #[.int .i64 0, .int .i64 0, .int .u32 0, .int .u32 0, .int .i64 0, .int .i64 0, .int .i64 0, .slice none 0 0] 25 := Blk.new _ _ _ _ rfl
    have gk2 : Grew wk1 (wk1.alloc (.cells #[.int .i64 0, .int .i64 0, .int .u32 0, .int .u32 0, .int .i64 0, .int .i64 0, .int .i64 0, .slice none 0 0] 25)) := (Grew.refl _).alloc _
    have nXY : X ≠ wk1.heap.size := Nat.ne_of_lt hX.lt
    replace hX := hX.grew gk2
    generalize (wk1.alloc (.cells #[.int .i64 0, .int .i64 0, .int .u32 0, .int .u32 0, .int .i64 0, .int .i64 0, .int .i64 0, .slice none 0 0] 25)) = wk2 at *
    generalize wk1.heap.size = Y at *
    refine hK.out _ _ (hHeld.trans gk2) (fun hHeld => ?_)
    clear hK K
    try simp only [List.getElem_toArray, List.getElem_cons_succ, List.getElem_cons_zero, Act.put, List.setIfInBounds_toArray, List.set_cons_zero, List.set_cons_succ]
    refine wpAnyH_ready (rs := [10]) (by kernel_rfl) (by simp) ?_
    refine AllReadyH.cons rfl (fun K hK => ?_) AllReadyH.nil
    refine step_store_any rfl 25 (.tmp 6) (.tmp 22) rfl rfl (new := #[.int .i64 f.s, .int .i64 f.d, .int .u32 f.q, .int .u32 f.a, .int .i64 f.fl, .int .i64 f.wn, .int .i64 f.m, .slice sp1 f.x.length sk1]) hX sgInfo rfl (by simp [Value.oneCell']) (by rfl) (by rfl) ?_
    intro wk3 eX gk3
    replace hY := hY.trn gk3 (Ne.symm nXY)
    have ggX := gk3.grew hHeld lX
    refine hK.out _ _ (ggX) (fun hHeld => ?_)
    clear hK K
    replace hX := eX
    clear eX
    try simp only [List.getElem_toArray, List.getElem_cons_succ, List.getElem_cons_zero, Act.put, List.setIfInBounds_toArray, List.set_cons_zero, List.set_cons_succ]
    refine wpAnyH_ready (rs := [11]) (by kernel_rfl) (by simp) ?_
    refine AllReadyH.cons rfl (fun K hK => ?_) AllReadyH.nil
    refine step_store_any rfl 25 (.tmp 7) (.tmp 26) rfl rfl (new := #[.int .i64 f.s, .int .i64 f.d, .int .u32 f.q, .int .u32 f.a, .int .i64 f.fl, .int .i64 f.wn, .int .i64 f.m, .slice tp1 f.x.length tk1]) hY sgInfo rfl (by simp [Value.oneCell']) (by rfl) (by rfl) ?_
    intro wk4 eY gk4
    replace hX := hX.trn gk4 nXY
    have ggY := gk4.grew hHeld lY
    refine hK.out _ _ (ggY) (fun hHeld => ?_)
    clear hK K
    replace hY := eY
    clear eY
    try simp only [List.getElem_toArray, List.getElem_cons_succ, List.getElem_cons_zero, Act.put, List.setIfInBounds_toArray, List.set_cons_zero, List.set_cons_succ]
    refine wpAnyH_done (by kernel_rfl) ?_ _
    try simp only [List.getElem_toArray, List.getElem_cons_succ, List.getElem_cons_zero, Act.put, List.setIfInBounds_toArray, List.set_cons_zero, List.set_cons_succ]
    have G5 := hHeld
    clear hHeld
    have c1 := convert_bytes (HS1.out.grew G5).bytes
    have c3 := convert_bytes (HT1.out.grew G5).bytes
    have y0 := hX.cell 0
    have y1 := hX.cell 1
    have y2 := hX.cell 2
    have y3 := hX.cell 3
    have y4 := hX.cell 4
    have y5 := hX.cell 5
    have y6 := hX.cell 6
    have y7 := hX.cell 7
    have z0 := hY.cell 0
    have z1 := hY.cell 1
    have z2 := hY.cell 2
    have z3 := hY.cell 3
    have z4 := hY.cell 4
    have z5 := hY.cell 5
    have z6 := hY.cell 6
    have z7 := hY.cell 7
    go_wp2_with fail
    rw [rounds_succ]
    go_wp2_with fail
    go_ret
    exact ⟨rfl, G5⟩
  · go_simp
    have lY := hHeld.size
    have hY : Blk (wq0.alloc (.cells #[.int .i64 0, .int .i64 0, .int .u32 0, .int .u32 0, .int .i64 0, .int .i64 0, .int .i64 0, .slice none 0 0] 25)) wq0.heap.size #[.int .i64 0, .int .i64 0, .int .u32 0, .int .u32 0, .int .i64 0, .int .i64 0, .int .i64 0, .slice none 0 0] 25 := Blk.new _ _ _ _ rfl
    have gk5 : Grew wq0 (wq0.alloc (.cells #[.int .i64 0, .int .i64 0, .int .u32 0, .int .u32 0, .int .i64 0, .int .i64 0, .int .i64 0, .slice none 0 0] 25)) := (Grew.refl _).alloc _
    generalize (wq0.alloc (.cells #[.int .i64 0, .int .i64 0, .int .u32 0, .int .u32 0, .int .i64 0, .int .i64 0, .int .i64 0, .slice none 0 0] 25)) = wk5 at *
    generalize wq0.heap.size = Y at *
    refine hK.out _ _ (hHeld.trans gk5) (fun hHeld => ?_)
    clear hK K
    try simp only [List.getElem_toArray, List.getElem_cons_succ, List.getElem_cons_zero, Act.put, List.setIfInBounds_toArray, List.set_cons_zero, List.set_cons_succ]
    refine wpAnyH_ready (rs := [8]) (by kernel_rfl) (by simp) ?_
    refine AllReadyH.cons rfl (fun K hK => ?_) AllReadyH.nil
    go_simp
    have lX := hHeld.size
    have hX : Blk (wk5.alloc (.cells #[.int .i64 0, .int .i64 0, .int .u32 0, .int .u32 0, .int .i64 0, .int .i64 0, .int .i64 0, .slice none 0 0] 25)) wk5.heap.size #[.int .i64 0, .int .i64 0, .int .u32 0, .int .u32 0, .int .i64 0, .int .i64 0, .int .i64 0, .slice none 0 0] 25 := Blk.new _ _ _ _ rfl
    have gk6 : Grew wk5 (wk5.alloc (.cells #[.int .i64 0, .int .i64 0, .int .u32 0, .int .u32 0, .int .i64 0, .int .i64 0, .int .i64 0, .slice none 0 0] 25)) := (Grew.refl _).alloc _
    have nYX : Y ≠ wk5.heap.size := Nat.ne_of_lt hY.lt
    replace hY := hY.grew gk6
    generalize (wk5.alloc (.cells #[.int .i64 0, .int .i64 0, .int .u32 0, .int .u32 0, .int .i64 0, .int .i64 0, .int .i64 0, .slice none 0 0] 25)) = wk6 at *
    generalize wk5.heap.size = X at *
    refine hK.out _ _ (hHeld.trans gk6) (fun hHeld => ?_)
    clear hK K
    try simp only [List.getElem_toArray, List.getElem_cons_succ, List.getElem_cons_zero, Act.put, List.setIfInBounds_toArray, List.set_cons_zero, List.set_cons_succ]
    refine wpAnyH_ready (rs := [10]) (by kernel_rfl) (by simp) ?_
    refine AllReadyH.cons rfl (fun K hK => ?_) AllReadyH.nil
    refine step_store_any rfl 25 (.tmp 6) (.tmp 22) rfl rfl (new := #[.int .i64 f.s, .int .i64 f.d, .int .u32 f.q, .int .u32 f.a, .int .i64 f.fl, .int .i64 f.wn, .int .i64 f.m, .slice sp1 f.x.length sk1]) hX sgInfo rfl (by simp [Value.oneCell']) (by rfl) (by rfl) ?_
    intro wk7 eX gk7
    replace hY := hY.trn gk7 nYX
    have ggX := gk7.grew hHeld lX
    refine hK.out _ _ (ggX) (fun hHeld => ?_)
    clear hK K
    replace hX := eX
    clear eX
    try simp only [List.getElem_toArray, List.getElem_cons_succ, List.getElem_cons_zero, Act.put, List.setIfInBounds_toArray, List.set_cons_zero, List.set_cons_succ]
    refine wpAnyH_ready (rs := [11]) (by kernel_rfl) (by simp) ?_
    refine AllReadyH.cons rfl (fun K hK => ?_) AllReadyH.nil
    refine step_store_any rfl 25 (.tmp 7) (.tmp 26) rfl rfl (new := #[.int .i64 f.s, .int .i64 f.d, .int .u32 f.q, .int .u32 f.a, .int .i64 f.fl, .int .i64 f.wn, .int .i64 f.m, .slice tp1 f.x.length tk1]) hY sgInfo rfl (by simp [Value.oneCell']) (by rfl) (by rfl) ?_
    intro wk8 eY gk8
    replace hX := hX.trn gk8 (Ne.symm nYX)
    have ggY := gk8.grew hHeld lY
    refine hK.out _ _ (ggY) (fun hHeld => ?_)
    clear hK K
    replace hY := eY
    clear eY
    try simp only [List.getElem_toArray, List.getElem_cons_succ, List.getElem_cons_zero, Act.put, List.setIfInBounds_toArray, List.set_cons_zero, List.set_cons_succ]
    refine wpAnyH_done (by kernel_rfl) ?_ _
    try simp only [List.getElem_toArray, List.getElem_cons_succ, List.getElem_cons_zero, Act.put, List.setIfInBounds_toArray, List.set_cons_zero, List.set_cons_succ]
    have G5 := hHeld
    clear hHeld
    have c1 := convert_bytes (HS1.out.grew G5).bytes
    have c3 := convert_bytes (HT1.out.grew G5).bytes
    have y0 := hX.cell 0
    have y1 := hX.cell 1
    have y2 := hX.cell 2
    have y3 := hX.cell 3
    have y4 := hX.cell 4
    have y5 := hX.cell 5
    have y6 := hX.cell 6
    have y7 := hX.cell 7
    have z0 := hY.cell 0
    have z1 := hY.cell 1
    have z2 := hY.cell 2
    have z3 := hY.cell 3
    have z4 := hY.cell 4
    have z5 := hY.cell 5
    have z6 := hY.cell 6
    have z7 := hY.cell 7
    go_wp2_with fail
    rw [rounds_succ]
    go_wp2_with fail
    go_ret
    exact ⟨rfl, G5⟩
theorem one_c {f : SGR} {p1 : Option Addr} {k1 : Nat} {w : World} :
    Calls Try.prog 14 #[.agg #[.int .i64 f.s, .int .i64 f.d, .int .u32 f.q, .int .u32 f.a, .int .i64 f.fl, .int .i64 f.wn, .int .i64 f.m, .slice p1 f.x.length k1]] w fun e w' => ∃ A T, e = .returned (.slice (some ⟨A, 0, none⟩) 1 1) ∧ Blk w' A #[.int .i64 f.s, .int .i64 f.d, .int .u32 f.q, .int .u32 f.a, .int .i64 f.fl, .int .i64 f.wn, .int .i64 f.m, .slice p1 f.x.length k1] T ∧ Grew w w' := by
  go_enter Try.func14, Try.ntmps14
  go_upto_region 1 with fail
  have hB : Blk (w.alloc (.cells #[.int .i64 f.s, .int .i64 f.d, .int .u32 f.q, .int .u32 f.a, .int .i64 f.fl, .int .i64 f.wn, .int .i64 f.m, .slice p1 f.x.length k1] 25)) w.heap.size #[.int .i64 f.s, .int .i64 f.d, .int .u32 f.q, .int .u32 f.a, .int .i64 f.fl, .int .i64 f.wn, .int .i64 f.m, .slice p1 f.x.length k1] 25 := Blk.new _ _ _ _ rfl
  have g0 : Grew w (w.alloc (.cells #[.int .i64 f.s, .int .i64 f.d, .int .u32 f.q, .int .u32 f.a, .int .i64 f.fl, .int .i64 f.wn, .int .i64 f.m, .slice p1 f.x.length k1] 25)) := (Grew.refl _).alloc _
  generalize (w.alloc (.cells #[.int .i64 f.s, .int .i64 f.d, .int .u32 f.q, .int .u32 f.a, .int .i64 f.fl, .int .i64 f.wn, .int .i64 f.m, .slice p1 f.x.length k1] 25)) = w0 at *
  generalize hlB : w.heap.size = B at *
  have y0 := hB.cell 0
  have y1 := hB.cell 1
  have y2 := hB.cell 2
  have y3 := hB.cell 3
  have y4 := hB.cell 4
  have y5 := hB.cell 5
  have y6 := hB.cell 6
  have y7 := hB.cell 7
  go_wp2_with fail
  go_ret
  exact ⟨_, _, rfl, Blk.new _ _ _ _ rfl, g0.alloc _⟩
end Go.Proofs.Ytiaejlbkdgcfiaa
