/-
  The document's Same of two rows of one packet each, which read alike; a row of one.
-/
import Derived.Test.YtalbdeifkbfnbaaDoorIpG
set_option maxRecDepth 4000
set_option linter.unusedVariables false
set_option linter.unusedSimpArgs false
namespace Go.Proofs.YtalbdeifkbfnbaaDoor
open Go.RowKit

set_option maxHeartbeats 4000000 in
theorem same17_c {A B : Nat} {f : PK} {sp1 : Option Addr} {sk1 : Nat} {sp2 : Option Addr} {sk2 : Nat} {tp1 : Option Addr} {tk1 : Nat} {tp2 : Option Addr} {tk2 : Nat} {T1 T2 : TypeId} {w : World} (hA : Blk w A #[.int .i64 f.tos, .int .i64 f.id, .int .i64 f.fl, .int .i64 f.off, .int .i64 f.ttl, .int .i64 f.pr, .int .u32 f.si, .int .u32 f.di, .slice sp1 f.o.length sk1, .slice sp2 f.x.length sk2] T1) (hB : Blk w B #[.int .i64 f.tos, .int .i64 f.id, .int .i64 f.fl, .int .i64 f.off, .int .i64 f.ttl, .int .i64 f.pr, .int .u32 f.si, .int .u32 f.di, .slice tp1 f.o.length tk1, .slice tp2 f.x.length tk2] T2)
    (hs1 : Buf w (.slice sp1 f.o.length sk1) f.o) (hs2 : Buf w (.slice sp2 f.x.length sk2) f.x) (ht1 : Buf w (.slice tp1 f.o.length tk1) f.o) (ht2 : Buf w (.slice tp2 f.x.length tk2) f.x) :
    Calls Tryd.prog 13 #[.slice (some ⟨A, 0, none⟩) 1 1, .slice (some ⟨B, 0, none⟩) 1 1] w fun e w' => e = .returned (.bool true) ∧ Grew w w' := by
  have HS1 := Lib.hid hs1
  have HS2 := Lib.hid hs2
  have HT1 := Lib.hid ht1
  have HT2 := Lib.hid ht2
  clear hs1 hs2 ht1 ht2
  go_enter Tryd.func13, Tryd.ntmps13
  go_upto_region 4 with fail
  refine wp_loop_rounds 2 ?_
  rw [rounds_succ]
  go_upto_region 6 with fail
  refine wp_region_held_drew (S := fun w' => Grew w w') (by kernel_rfl) ((Grew.refl w).drew1) (fun hHeld => ?_)
  replace hHeld : Grew w w.drew := hHeld
  generalize w.drew = wq0 at *
  refine wpAnyH_take (i := 0) (v := ?_) rfl (by kernel_rfl) (by kernel_rfl) (by kernel_rfl) (fun _ _ _ h => h) (Or.inl ⟨by rfl, ?_⟩) hHeld ?_
  rotate_left
  · intro wq hSw
    replace hSw : Grew w wq := hSw
    go_simp
    try with_reducible rfl
  try simp only [List.getElem_toArray, List.getElem_cons_succ, List.getElem_cons_zero, Act.put, List.setIfInBounds_toArray, List.set_cons_zero, List.set_cons_succ]
  refine wpAnyH_take (i := 1) (v := ?_) rfl (by kernel_rfl) (by kernel_rfl) (by kernel_rfl) (fun _ _ _ h => h) (Or.inl ⟨by rfl, ?_⟩) hHeld ?_
  rotate_left
  · intro wq hSw
    replace hSw : Grew w wq := hSw
    go_simp
    try with_reducible rfl
  try simp only [List.getElem_toArray, List.getElem_cons_succ, List.getElem_cons_zero, Act.put, List.setIfInBounds_toArray, List.set_cons_zero, List.set_cons_succ]
  refine wpAnyH_take (i := 2) (v := ?_) rfl (by kernel_rfl) (by kernel_rfl) (by kernel_rfl) (fun _ _ _ h => h) (Or.inl ⟨by rfl, ?_⟩) hHeld ?_
  rotate_left
  · intro wq hSw
    replace hSw : Grew w wq := hSw
    go_simp
    try with_reducible rfl
  try simp only [List.getElem_toArray, List.getElem_cons_succ, List.getElem_cons_zero, Act.put, List.setIfInBounds_toArray, List.set_cons_zero, List.set_cons_succ]
  refine wpAnyH_take (i := 3) (v := ?_) rfl (by kernel_rfl) (by kernel_rfl) (by kernel_rfl) (fun _ _ _ h => h) (Or.inl ⟨by rfl, ?_⟩) hHeld ?_
  rotate_left
  · intro wq hSw
    replace hSw : Grew w wq := hSw
    have ya0 := (hA.grew hSw).cell 0
    have ya1 := (hA.grew hSw).cell 1
    have ya2 := (hA.grew hSw).cell 2
    have ya3 := (hA.grew hSw).cell 3
    have ya4 := (hA.grew hSw).cell 4
    have ya5 := (hA.grew hSw).cell 5
    have ya6 := (hA.grew hSw).cell 6
    have ya7 := (hA.grew hSw).cell 7
    have ya8 := (hA.grew hSw).cell 8
    have ya9 := (hA.grew hSw).cell 9
    go_simp
    try with_reducible rfl
  try simp only [List.getElem_toArray, List.getElem_cons_succ, List.getElem_cons_zero, Act.put, List.setIfInBounds_toArray, List.set_cons_zero, List.set_cons_succ]
  refine wpAnyH_take (i := 4) (v := ?_) rfl (by kernel_rfl) (by kernel_rfl) (by kernel_rfl) (fun _ _ _ h => h) (Or.inl ⟨by rfl, ?_⟩) hHeld ?_
  rotate_left
  · intro wq hSw
    replace hSw : Grew w wq := hSw
    go_simp
    try with_reducible rfl
  try simp only [List.getElem_toArray, List.getElem_cons_succ, List.getElem_cons_zero, Act.put, List.setIfInBounds_toArray, List.set_cons_zero, List.set_cons_succ]
  refine wpAnyH_take (i := 5) (v := ?_) rfl (by kernel_rfl) (by kernel_rfl) (by kernel_rfl) (fun _ _ _ h => h) (Or.inl ⟨by rfl, ?_⟩) hHeld ?_
  rotate_left
  · intro wq hSw
    replace hSw : Grew w wq := hSw
    go_simp
    try with_reducible rfl
  try simp only [List.getElem_toArray, List.getElem_cons_succ, List.getElem_cons_zero, Act.put, List.setIfInBounds_toArray, List.set_cons_zero, List.set_cons_succ]
  refine wpAnyH_take (i := 6) (v := ?_) rfl (by kernel_rfl) (by kernel_rfl) (by kernel_rfl) (fun _ _ _ h => h) (Or.inl ⟨by rfl, ?_⟩) hHeld ?_
  rotate_left
  · intro wq hSw
    replace hSw : Grew w wq := hSw
    go_simp
    try with_reducible rfl
  try simp only [List.getElem_toArray, List.getElem_cons_succ, List.getElem_cons_zero, Act.put, List.setIfInBounds_toArray, List.set_cons_zero, List.set_cons_succ]
  refine wpAnyH_take (i := 7) (v := ?_) rfl (by kernel_rfl) (by kernel_rfl) (by kernel_rfl) (fun _ _ _ h => h) (Or.inl ⟨by rfl, ?_⟩) hHeld ?_
  rotate_left
  · intro wq hSw
    replace hSw : Grew w wq := hSw
    have yb0 := (hB.grew hSw).cell 0
    have yb1 := (hB.grew hSw).cell 1
    have yb2 := (hB.grew hSw).cell 2
    have yb3 := (hB.grew hSw).cell 3
    have yb4 := (hB.grew hSw).cell 4
    have yb5 := (hB.grew hSw).cell 5
    have yb6 := (hB.grew hSw).cell 6
    have yb7 := (hB.grew hSw).cell 7
    have yb8 := (hB.grew hSw).cell 8
    have yb9 := (hB.grew hSw).cell 9
    go_simp
    try with_reducible rfl
  try simp only [List.getElem_toArray, List.getElem_cons_succ, List.getElem_cons_zero, Act.put, List.setIfInBounds_toArray, List.set_cons_zero, List.set_cons_succ]
  refine wpAnyH_ready (rs := [8, 9]) (by kernel_rfl) (by simp) ?_
  refine AllReadyH.cons rfl (fun K hK => ?_) (AllReadyH.cons rfl (fun K hK => ?_) AllReadyH.nil)
  · go_simp
    have lX := hHeld.size
    have hX : Blk (wq0.alloc (.cells #[.int .i64 0, .int .i64 0, .int .i64 0, .int .i64 0, .int .i64 0, .int .i64 0, .int .u32 0, .int .u32 0, .slice none 0 0, .slice none 0 0] 25)) wq0.heap.size #[.int .i64 0, .int .i64 0, .int .i64 0, .int .i64 0, .int .i64 0, .int .i64 0, .int .u32 0, .int .u32 0, .slice none 0 0, .slice none 0 0] 25 := Blk.new _ _ _ _ rfl
    have gk1 : Grew wq0 (wq0.alloc (.cells #[.int .i64 0, .int .i64 0, .int .i64 0, .int .i64 0, .int .i64 0, .int .i64 0, .int .u32 0, .int .u32 0, .slice none 0 0, .slice none 0 0] 25)) := (Grew.refl _).alloc _
    generalize (wq0.alloc (.cells #[.int .i64 0, .int .i64 0, .int .i64 0, .int .i64 0, .int .i64 0, .int .i64 0, .int .u32 0, .int .u32 0, .slice none 0 0, .slice none 0 0] 25)) = wk1 at *
    generalize wq0.heap.size = X at *
    refine hK.out _ _ (hHeld.trans gk1) (fun hHeld => ?_)
    clear hK K
    try simp only [List.getElem_toArray, List.getElem_cons_succ, List.getElem_cons_zero, Act.put, List.setIfInBounds_toArray, List.set_cons_zero, List.set_cons_succ]
    refine wpAnyH_ready (rs := [9]) (by kernel_rfl) (by simp) ?_
    refine AllReadyH.cons rfl (fun K hK => ?_) AllReadyH.nil
    go_simp
    have lY := hHeld.size
    have hY : Blk (wk1.alloc (.cells #[.int .i64 0, .int .i64 0, .int .i64 0, .int .i64 0, .int .i64 0, .int .i64 0, .int .u32 0, .int .u32 0, .slice none 0 0, .slice none 0 0] 25)) wk1.heap.size #[.int .i64 0, .int .i64 0, .int .i64 0, .int .i64 0, .int .i64 0, .int .i64 0, .int .u32 0, .int .u32 0, .slice none 0 0, .slice none 0 0] 25 := Blk.new _ _ _ _ rfl
    have gk2 : Grew wk1 (wk1.alloc (.cells #[.int .i64 0, .int .i64 0, .int .i64 0, .int .i64 0, .int .i64 0, .int .i64 0, .int .u32 0, .int .u32 0, .slice none 0 0, .slice none 0 0] 25)) := (Grew.refl _).alloc _
    have nXY : X ≠ wk1.heap.size := Nat.ne_of_lt hX.lt
    replace hX := hX.grew gk2
    generalize (wk1.alloc (.cells #[.int .i64 0, .int .i64 0, .int .i64 0, .int .i64 0, .int .i64 0, .int .i64 0, .int .u32 0, .int .u32 0, .slice none 0 0, .slice none 0 0] 25)) = wk2 at *
    generalize wk1.heap.size = Y at *
    refine hK.out _ _ (hHeld.trans gk2) (fun hHeld => ?_)
    clear hK K
    try simp only [List.getElem_toArray, List.getElem_cons_succ, List.getElem_cons_zero, Act.put, List.setIfInBounds_toArray, List.set_cons_zero, List.set_cons_succ]
    refine wpAnyH_ready (rs := [10]) (by kernel_rfl) (by simp) ?_
    refine AllReadyH.cons rfl (fun K hK => ?_) AllReadyH.nil
    refine step_store_any rfl 25 (.tmp 6) (.tmp 22) rfl rfl (new := #[.int .i64 f.tos, .int .i64 f.id, .int .i64 f.fl, .int .i64 f.off, .int .i64 f.ttl, .int .i64 f.pr, .int .u32 f.si, .int .u32 f.di, .slice sp1 f.o.length sk1, .slice sp2 f.x.length sk2]) hX ipInfo rfl (by simp [Value.oneCell']) (by rfl) (by rfl) ?_
    intro wk3 eX gk3
    replace hY := hY.trn gk3 (Ne.symm nXY)
    have ggX := gk3.grew hHeld lX
    refine hK.out _ _ (ggX) (fun hHeld => ?_)
    clear hK K
    replace hX := eX
    clear eX
    try simp only [List.getElem_toArray, List.getElem_cons_succ, List.getElem_cons_zero, Act.put, List.setIfInBounds_toArray, List.set_cons_zero, List.set_cons_succ]
    refine wpAnyH_ready (rs := [11]) (by kernel_rfl) (by simp) ?_
    refine AllReadyH.cons rfl (fun K hK => ?_) AllReadyH.nil
    refine step_store_any rfl 25 (.tmp 7) (.tmp 26) rfl rfl (new := #[.int .i64 f.tos, .int .i64 f.id, .int .i64 f.fl, .int .i64 f.off, .int .i64 f.ttl, .int .i64 f.pr, .int .u32 f.si, .int .u32 f.di, .slice tp1 f.o.length tk1, .slice tp2 f.x.length tk2]) hY ipInfo rfl (by simp [Value.oneCell']) (by rfl) (by rfl) ?_
    intro wk4 eY gk4
    replace hX := hX.trn gk4 nXY
    have ggY := gk4.grew hHeld lY
    refine hK.out _ _ (ggY) (fun hHeld => ?_)
    clear hK K
    replace hY := eY
    clear eY
    try simp only [List.getElem_toArray, List.getElem_cons_succ, List.getElem_cons_zero, Act.put, List.setIfInBounds_toArray, List.set_cons_zero, List.set_cons_succ]
    refine wpAnyH_done (by kernel_rfl) ?_ _
    try simp only [List.getElem_toArray, List.getElem_cons_succ, List.getElem_cons_zero, Act.put, List.setIfInBounds_toArray, List.set_cons_zero, List.set_cons_succ]
    have G5 := hHeld
    clear hHeld
    have c1 := convert_bytes (HS1.out.grew G5).bytes
    have c2 := convert_bytes (HS2.out.grew G5).bytes
    have c3 := convert_bytes (HT1.out.grew G5).bytes
    have c4 := convert_bytes (HT2.out.grew G5).bytes
    have y0 := hX.cell 0
    have y1 := hX.cell 1
    have y2 := hX.cell 2
    have y3 := hX.cell 3
    have y4 := hX.cell 4
    have y5 := hX.cell 5
    have y6 := hX.cell 6
    have y7 := hX.cell 7
    have y8 := hX.cell 8
    have y9 := hX.cell 9
    have z0 := hY.cell 0
    have z1 := hY.cell 1
    have z2 := hY.cell 2
    have z3 := hY.cell 3
    have z4 := hY.cell 4
    have z5 := hY.cell 5
    have z6 := hY.cell 6
    have z7 := hY.cell 7
    have z8 := hY.cell 8
    have z9 := hY.cell 9
    go_wp2_with fail
    rw [rounds_succ]
    go_wp2_with fail
    go_ret
    exact ⟨rfl, G5⟩
  · go_simp
    have lY := hHeld.size
    have hY : Blk (wq0.alloc (.cells #[.int .i64 0, .int .i64 0, .int .i64 0, .int .i64 0, .int .i64 0, .int .i64 0, .int .u32 0, .int .u32 0, .slice none 0 0, .slice none 0 0] 25)) wq0.heap.size #[.int .i64 0, .int .i64 0, .int .i64 0, .int .i64 0, .int .i64 0, .int .i64 0, .int .u32 0, .int .u32 0, .slice none 0 0, .slice none 0 0] 25 := Blk.new _ _ _ _ rfl
    have gk5 : Grew wq0 (wq0.alloc (.cells #[.int .i64 0, .int .i64 0, .int .i64 0, .int .i64 0, .int .i64 0, .int .i64 0, .int .u32 0, .int .u32 0, .slice none 0 0, .slice none 0 0] 25)) := (Grew.refl _).alloc _
    generalize (wq0.alloc (.cells #[.int .i64 0, .int .i64 0, .int .i64 0, .int .i64 0, .int .i64 0, .int .i64 0, .int .u32 0, .int .u32 0, .slice none 0 0, .slice none 0 0] 25)) = wk5 at *
    generalize wq0.heap.size = Y at *
    refine hK.out _ _ (hHeld.trans gk5) (fun hHeld => ?_)
    clear hK K
    try simp only [List.getElem_toArray, List.getElem_cons_succ, List.getElem_cons_zero, Act.put, List.setIfInBounds_toArray, List.set_cons_zero, List.set_cons_succ]
    refine wpAnyH_ready (rs := [8]) (by kernel_rfl) (by simp) ?_
    refine AllReadyH.cons rfl (fun K hK => ?_) AllReadyH.nil
    go_simp
    have lX := hHeld.size
    have hX : Blk (wk5.alloc (.cells #[.int .i64 0, .int .i64 0, .int .i64 0, .int .i64 0, .int .i64 0, .int .i64 0, .int .u32 0, .int .u32 0, .slice none 0 0, .slice none 0 0] 25)) wk5.heap.size #[.int .i64 0, .int .i64 0, .int .i64 0, .int .i64 0, .int .i64 0, .int .i64 0, .int .u32 0, .int .u32 0, .slice none 0 0, .slice none 0 0] 25 := Blk.new _ _ _ _ rfl
    have gk6 : Grew wk5 (wk5.alloc (.cells #[.int .i64 0, .int .i64 0, .int .i64 0, .int .i64 0, .int .i64 0, .int .i64 0, .int .u32 0, .int .u32 0, .slice none 0 0, .slice none 0 0] 25)) := (Grew.refl _).alloc _
    have nYX : Y ≠ wk5.heap.size := Nat.ne_of_lt hY.lt
    replace hY := hY.grew gk6
    generalize (wk5.alloc (.cells #[.int .i64 0, .int .i64 0, .int .i64 0, .int .i64 0, .int .i64 0, .int .i64 0, .int .u32 0, .int .u32 0, .slice none 0 0, .slice none 0 0] 25)) = wk6 at *
    generalize wk5.heap.size = X at *
    refine hK.out _ _ (hHeld.trans gk6) (fun hHeld => ?_)
    clear hK K
    try simp only [List.getElem_toArray, List.getElem_cons_succ, List.getElem_cons_zero, Act.put, List.setIfInBounds_toArray, List.set_cons_zero, List.set_cons_succ]
    refine wpAnyH_ready (rs := [10]) (by kernel_rfl) (by simp) ?_
    refine AllReadyH.cons rfl (fun K hK => ?_) AllReadyH.nil
    refine step_store_any rfl 25 (.tmp 6) (.tmp 22) rfl rfl (new := #[.int .i64 f.tos, .int .i64 f.id, .int .i64 f.fl, .int .i64 f.off, .int .i64 f.ttl, .int .i64 f.pr, .int .u32 f.si, .int .u32 f.di, .slice sp1 f.o.length sk1, .slice sp2 f.x.length sk2]) hX ipInfo rfl (by simp [Value.oneCell']) (by rfl) (by rfl) ?_
    intro wk7 eX gk7
    replace hY := hY.trn gk7 nYX
    have ggX := gk7.grew hHeld lX
    refine hK.out _ _ (ggX) (fun hHeld => ?_)
    clear hK K
    replace hX := eX
    clear eX
    try simp only [List.getElem_toArray, List.getElem_cons_succ, List.getElem_cons_zero, Act.put, List.setIfInBounds_toArray, List.set_cons_zero, List.set_cons_succ]
    refine wpAnyH_ready (rs := [11]) (by kernel_rfl) (by simp) ?_
    refine AllReadyH.cons rfl (fun K hK => ?_) AllReadyH.nil
    refine step_store_any rfl 25 (.tmp 7) (.tmp 26) rfl rfl (new := #[.int .i64 f.tos, .int .i64 f.id, .int .i64 f.fl, .int .i64 f.off, .int .i64 f.ttl, .int .i64 f.pr, .int .u32 f.si, .int .u32 f.di, .slice tp1 f.o.length tk1, .slice tp2 f.x.length tk2]) hY ipInfo rfl (by simp [Value.oneCell']) (by rfl) (by rfl) ?_
    intro wk8 eY gk8
    replace hX := hX.trn gk8 (Ne.symm nYX)
    have ggY := gk8.grew hHeld lY
    refine hK.out _ _ (ggY) (fun hHeld => ?_)
    clear hK K
    replace hY := eY
    clear eY
    try simp only [List.getElem_toArray, List.getElem_cons_succ, List.getElem_cons_zero, Act.put, List.setIfInBounds_toArray, List.set_cons_zero, List.set_cons_succ]
    refine wpAnyH_done (by kernel_rfl) ?_ _
    try simp only [List.getElem_toArray, List.getElem_cons_succ, List.getElem_cons_zero, Act.put, List.setIfInBounds_toArray, List.set_cons_zero, List.set_cons_succ]
    have G5 := hHeld
    clear hHeld
    have c1 := convert_bytes (HS1.out.grew G5).bytes
    have c2 := convert_bytes (HS2.out.grew G5).bytes
    have c3 := convert_bytes (HT1.out.grew G5).bytes
    have c4 := convert_bytes (HT2.out.grew G5).bytes
    have y0 := hX.cell 0
    have y1 := hX.cell 1
    have y2 := hX.cell 2
    have y3 := hX.cell 3
    have y4 := hX.cell 4
    have y5 := hX.cell 5
    have y6 := hX.cell 6
    have y7 := hX.cell 7
    have y8 := hX.cell 8
    have y9 := hX.cell 9
    have z0 := hY.cell 0
    have z1 := hY.cell 1
    have z2 := hY.cell 2
    have z3 := hY.cell 3
    have z4 := hY.cell 4
    have z5 := hY.cell 5
    have z6 := hY.cell 6
    have z7 := hY.cell 7
    have z8 := hY.cell 8
    have z9 := hY.cell 9
    go_wp2_with fail
    rw [rounds_succ]
    go_wp2_with fail
    go_ret
    exact ⟨rfl, G5⟩
theorem one_c {f : PK} {p1 : Option Addr} {k1 : Nat} {p2 : Option Addr} {k2 : Nat} {w : World} :
    Calls Tryd.prog 14 #[.agg #[.int .i64 f.tos, .int .i64 f.id, .int .i64 f.fl, .int .i64 f.off, .int .i64 f.ttl, .int .i64 f.pr, .int .u32 f.si, .int .u32 f.di, .slice p1 f.o.length k1, .slice p2 f.x.length k2]] w fun e w' => ∃ A T, e = .returned (.slice (some ⟨A, 0, none⟩) 1 1) ∧ Blk w' A #[.int .i64 f.tos, .int .i64 f.id, .int .i64 f.fl, .int .i64 f.off, .int .i64 f.ttl, .int .i64 f.pr, .int .u32 f.si, .int .u32 f.di, .slice p1 f.o.length k1, .slice p2 f.x.length k2] T ∧ Grew w w' := by
  go_enter Tryd.func14, Tryd.ntmps14
  go_upto_region 1 with fail
  have hB : Blk (w.alloc (.cells #[.int .i64 f.tos, .int .i64 f.id, .int .i64 f.fl, .int .i64 f.off, .int .i64 f.ttl, .int .i64 f.pr, .int .u32 f.si, .int .u32 f.di, .slice p1 f.o.length k1, .slice p2 f.x.length k2] 25)) w.heap.size #[.int .i64 f.tos, .int .i64 f.id, .int .i64 f.fl, .int .i64 f.off, .int .i64 f.ttl, .int .i64 f.pr, .int .u32 f.si, .int .u32 f.di, .slice p1 f.o.length k1, .slice p2 f.x.length k2] 25 := Blk.new _ _ _ _ rfl
  have g0 : Grew w (w.alloc (.cells #[.int .i64 f.tos, .int .i64 f.id, .int .i64 f.fl, .int .i64 f.off, .int .i64 f.ttl, .int .i64 f.pr, .int .u32 f.si, .int .u32 f.di, .slice p1 f.o.length k1, .slice p2 f.x.length k2] 25)) := (Grew.refl _).alloc _
  generalize (w.alloc (.cells #[.int .i64 f.tos, .int .i64 f.id, .int .i64 f.fl, .int .i64 f.off, .int .i64 f.ttl, .int .i64 f.pr, .int .u32 f.si, .int .u32 f.di, .slice p1 f.o.length k1, .slice p2 f.x.length k2] 25)) = w0 at *
  generalize hlB : w.heap.size = B at *
  have y0 := hB.cell 0
  have y1 := hB.cell 1
  have y2 := hB.cell 2
  have y3 := hB.cell 3
  have y4 := hB.cell 4
  have y5 := hB.cell 5
  have y6 := hB.cell 6
  have y7 := hB.cell 7
  have y8 := hB.cell 8
  have y9 := hB.cell 9
  go_wp2_with fail
  go_ret
  exact ⟨_, _, rfl, Blk.new _ _ _ _ rfl, g0.alloc _⟩
end Go.Proofs.YtalbdeifkbfnbaaDoor
