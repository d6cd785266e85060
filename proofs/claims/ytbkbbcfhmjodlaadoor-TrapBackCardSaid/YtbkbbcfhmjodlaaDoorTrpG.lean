/-
  Package trap: Mret, Sret.
-/
import Derived.Test.YtbkbbcfhmjodlaaDoorTrpF
set_option linter.unusedVariables false
set_option linter.unusedSimpArgs false
namespace Go.Proofs.YtbkbbcfhmjodlaaDoor
open Go.RowKit

set_option maxRecDepth 100000 in
set_option maxHeartbeats 2000000 in
theorem mretp_c (c : Nat → Int) (s : Nat) (hs : s < 2 ^ 64) (c0 : c 0 = (s : Int)) (three : Bool) (h3 : ((((ofP s 11 3 : Nat) : Int) != 3) = !three)) (r : Nat) (hr : r = if three = true then leaveN 3 7 11 3 s else setP (leaveN 3 7 11 3 s) 17 1 0) {W w : World} (hg : Grew W w) :
    Calls Tryd.prog 12 #[csV c] w fun e w' => e = .returned (.tuple #[csV (upd c 0 (r : Nat)), .int .i64 (ofP s 11 3 : Nat), .int .u64 (c 7)]) ∧ Grew W w' := by
  have hgs := hg.size
  have HS := Lib.hid hs
  have H3 := Lib.hid h3
  have HR := Lib.hid hr
  clear hs h3 hr
  go_enter Tryd.func12, Tryd.ntmps12
  go_upto_region 1 with fail
  refine wp_gen2 hg ?_
  intro w1 kb kz g1
  change Blk w1 (w.heap.size + 1) (csA fun _ => 0) 24 at kz
  have yz := fun z : Over w1 => kb.overCell 0 (.int .u64 (s : Nat)) (by rw [csA_0, c0]) z
  go_wp2_with fail
  refine region_over (by kernel_rfl) (by kernel_rfl) ?_
  repeat (first | go_big_quiet_step ((first | (go_at_call 18; with_reducible exact over_eq (machine_c (Over.g _))) | (go_at_call 29; with_reducible exact over_eq (leave_c 3 7 11 3 s (by decide) (by decide) (by decide) (by decide) (by decide) HS.out three H3.out r HR.out (Over.g _))))) | quiet_step ((first | (go_at_call 18; with_reducible exact over_eq (machine_c (Over.g _))) | (go_at_call 29; with_reducible exact over_eq (leave_c 3 7 11 3 s (by decide) (by decide) (by decide) (by decide) (by decide) HS.out three H3.out r HR.out (Over.g _))))))
  refine wpQuiet_nil ?_
  intro z
  have g2 := g1.trans z.g
  have k2 := kb.over z
  have z2 := kz.over z
  generalize z.w = w2 at *
  have y0 : w2.cell? ⟨w.heap.size, 0, none⟩ = some (.int .u64 (s : Nat)) := by rw [k2.cell, csA_0, c0]
  have f0 := k2.free 0
  clear yz z g1 kb kz
  go_upto_region 3 with fail
  have k3 : Blk (World.setCell (w2) ⟨w.heap.size, 0, none⟩ (.int .u64 ((r : Int)))) w.heap.size (csA (upd c 0 (r : Int))) 24 := by
    have := (k2).set (o := 0) (.int .u64 ((r : Int)))
    rw [csU_0] at this
    exact this
  have z3 := (z2).other (o := 0) (c := w.heap.size) (by omega) (.int .u64 ((r : Int)))
  have g3 : Grew W (World.setCell (w2) ⟨w.heap.size, 0, none⟩ (.int .u64 ((r : Int)))) := (g2).setCell hgs _
  clear y0 f0
  generalize World.setCell (w2) ⟨w.heap.size, 0, none⟩ (.int .u64 ((r : Int))) = w3 at *
  obtain ⟨d, hd⟩ : ∃ d, d = upd c 0 (r : Int) := ⟨_, rfl⟩
  have dq : d 7 = c 7 := by rw [hd]; rfl
  rw [← hd] at k3
  have HD := Lib.hid hd
  clear hd
  have kz := z3.drew
  refine wp_region_held_drew (S := fun w' => Blk w' w.heap.size (csA d) 24) (by kernel_rfl) (k3.drew) (fun hHeld => ?_)
  refine wpAnyH_take (i := 0) (v := csV d) rfl (by kernel_rfl) (by kernel_rfl) (by kernel_rfl) (fun _ _ _ h => h) (yl_cs rfl (by rfl) (by rfl) fun _ h => h) (by assumption) ?_
  try simp only [List.getElem_toArray, List.getElem_cons_succ, List.getElem_cons_zero, Act.put, List.setIfInBounds_toArray, List.set_cons_zero, List.set_cons_succ]
  refine wpAnyH_take (i := 1) (v := ?_) rfl (by kernel_rfl) (by kernel_rfl) (by kernel_rfl) (fun _ _ _ h => h) (Or.inl ⟨by rfl, ?_⟩) (by assumption) ?_
  rotate_left
  · intro wx hSw
    have hSc : wx.cell? ⟨w.heap.size, 7, none⟩ = some (.int .u64 (c 7)) := by rw [hSw.cell, csA_7, dq]
    clear hSw
    go_simp
    try with_reducible rfl
  try simp only [List.getElem_toArray, List.getElem_cons_succ, List.getElem_cons_zero, Act.put, List.setIfInBounds_toArray, List.set_cons_zero, List.set_cons_succ]
  refine wpAnyH_take (i := 2) (v := ?_) rfl (by kernel_rfl) (by kernel_rfl) (by kernel_rfl) (fun _ _ _ h => h) (Or.inl ⟨by rfl, ?_⟩) (by assumption) ?_
  rotate_left
  · intro wx hSw
    have hSc : wx.cell? ⟨w.heap.size, 7, none⟩ = some (.int .u64 (c 7)) := by rw [hSw.cell, csA_7, dq]
    clear hSw
    go_simp
    try with_reducible rfl
  try simp only [List.getElem_toArray, List.getElem_cons_succ, List.getElem_cons_zero, Act.put, List.setIfInBounds_toArray, List.set_cons_zero, List.set_cons_succ]
  refine wpAnyH_take (i := 3) (v := ?_) rfl (by kernel_rfl) (by kernel_rfl) (by kernel_rfl) (fun _ _ _ h => h) (Or.inl ⟨by rfl, ?_⟩) (by assumption) ?_
  rotate_left
  · intro wx hSw
    have hSc : wx.cell? ⟨w.heap.size, 7, none⟩ = some (.int .u64 (c 7)) := by rw [hSw.cell, csA_7, dq]
    clear hSw
    go_simp
    try with_reducible rfl
  try simp only [List.getElem_toArray, List.getElem_cons_succ, List.getElem_cons_zero, Act.put, List.setIfInBounds_toArray, List.set_cons_zero, List.set_cons_succ]
  refine wpAnyH_ready (rs := [4]) (by kernel_rfl) (by simp) ?_
  refine AllReadyH.cons rfl (fun K hK => ?_) AllReadyH.nil
  rw [if_pos (by rfl)]
  refine wp_store_row 24 (.tmp 2) (.tmp 16) rfl (w.heap.size + 1) (csA d) (by rfl) (by rfl) _ _ kz csInfo rfl (csA_one d) ?_
  have kl := kz.setRow (cs := csA d)
  have gl := (g3.drew1).setRow (b := w.heap.size + 1) (Nat.le_succ_of_le hgs) (csA d)
  have hl := (Blk.otherRow (g := w.heap.size + 1) (new := csA d) hHeld (by omega))
  refine hK.out _ _ hl (fun hHeld => ?_)
  clear hK K hl
  try simp only [List.getElem_toArray, List.getElem_cons_succ, List.getElem_cons_zero, Act.put, List.setIfInBounds_toArray, List.set_cons_zero, List.set_cons_succ]
  refine wpAnyH_take (i := 5) (v := ?_) rfl (by kernel_rfl) (by kernel_rfl) (by kernel_rfl) (fun _ _ _ h => h) (Or.inl ⟨by rfl, ?_⟩) (by assumption) ?_
  rotate_left
  · intro wx hSw
    have hSc : wx.cell? ⟨w.heap.size, 7, none⟩ = some (.int .u64 (c 7)) := by rw [hSw.cell, csA_7, dq]
    clear hSw
    go_simp
    try with_reducible rfl
  try simp only [List.getElem_toArray, List.getElem_cons_succ, List.getElem_cons_zero, Act.put, List.setIfInBounds_toArray, List.set_cons_zero, List.set_cons_succ]
  refine wpAnyH_take (i := 6) (v := ?_) rfl (by kernel_rfl) (by kernel_rfl) (by kernel_rfl) (fun _ _ _ h => h) (Or.inl ⟨by rfl, ?_⟩) (by assumption) ?_
  rotate_left
  · intro wx hSw
    have hSc : wx.cell? ⟨w.heap.size, 7, none⟩ = some (.int .u64 (c 7)) := by rw [hSw.cell, csA_7, dq]
    clear hSw
    go_simp
    try with_reducible rfl
  try simp only [List.getElem_toArray, List.getElem_cons_succ, List.getElem_cons_zero, Act.put, List.setIfInBounds_toArray, List.set_cons_zero, List.set_cons_succ]
  refine wpAnyH_done (by kernel_rfl) ?_ _
  try simp only [List.getElem_toArray, List.getElem_cons_succ, List.getElem_cons_zero, Act.put, List.setIfInBounds_toArray, List.set_cons_zero, List.set_cons_succ]
  go_wp2_with fail
  exact bodyPost_ret (v := .tuple #[csV d, .int .i64 (ofP s 11 3 : Nat), .int .u64 (c 7)]) (results_cs3 (p := 2) (q := 3) (r := 4) Tryd.results12 _ _ (w.heap.size + 1) kl rfl) rfl ⟨by rw [HD.out], gl⟩

set_option maxRecDepth 100000 in
set_option maxHeartbeats 2000000 in
theorem sretp_c (c : Nat → Int) (s : Nat) (hs : s < 2 ^ 64) (c0 : c 0 = (s : Int)) (three : Bool) (h3 : ((((ofP s 8 1 : Nat) : Int) != 3) = !three)) (r : Nat) (hr : r = if three = true then leaveN 1 5 8 1 s else setP (leaveN 1 5 8 1 s) 17 1 0) {W w : World} (hg : Grew W w) :
    Calls Tryd.prog 14 #[csV c] w fun e w' => e = .returned (.tuple #[csV (upd c 0 (r : Nat)), .int .i64 (ofP s 8 1 : Nat), .int .u64 (c 12)]) ∧ Grew W w' := by
  have hgs := hg.size
  have HS := Lib.hid hs
  have H3 := Lib.hid h3
  have HR := Lib.hid hr
  clear hs h3 hr
  go_enter Tryd.func14, Tryd.ntmps14
  go_upto_region 1 with fail
  refine wp_gen2 hg ?_
  intro w1 kb kz g1
  change Blk w1 (w.heap.size + 1) (csA fun _ => 0) 24 at kz
  have yz := fun z : Over w1 => kb.overCell 0 (.int .u64 (s : Nat)) (by rw [csA_0, c0]) z
  go_wp2_with fail
  refine region_over (by kernel_rfl) (by kernel_rfl) ?_
  repeat (first | go_big_quiet_step ((first | (go_at_call 21; with_reducible exact over_eq (supervisor_c (Over.g _))) | (go_at_call 29; with_reducible exact over_eq (leave_c 1 5 8 1 s (by decide) (by decide) (by decide) (by decide) (by decide) HS.out three H3.out r HR.out (Over.g _))))) | quiet_step ((first | (go_at_call 21; with_reducible exact over_eq (supervisor_c (Over.g _))) | (go_at_call 29; with_reducible exact over_eq (leave_c 1 5 8 1 s (by decide) (by decide) (by decide) (by decide) (by decide) HS.out three H3.out r HR.out (Over.g _))))))
  refine wpQuiet_nil ?_
  intro z
  have g2 := g1.trans z.g
  have k2 := kb.over z
  have z2 := kz.over z
  generalize z.w = w2 at *
  have y0 : w2.cell? ⟨w.heap.size, 0, none⟩ = some (.int .u64 (s : Nat)) := by rw [k2.cell, csA_0, c0]
  have f0 := k2.free 0
  clear yz z g1 kb kz
  go_upto_region 3 with fail
  have k3 : Blk (World.setCell (w2) ⟨w.heap.size, 0, none⟩ (.int .u64 ((r : Int)))) w.heap.size (csA (upd c 0 (r : Int))) 24 := by
    have := (k2).set (o := 0) (.int .u64 ((r : Int)))
    rw [csU_0] at this
    exact this
  have z3 := (z2).other (o := 0) (c := w.heap.size) (by omega) (.int .u64 ((r : Int)))
  have g3 : Grew W (World.setCell (w2) ⟨w.heap.size, 0, none⟩ (.int .u64 ((r : Int)))) := (g2).setCell hgs _
  clear y0 f0
  generalize World.setCell (w2) ⟨w.heap.size, 0, none⟩ (.int .u64 ((r : Int))) = w3 at *
  obtain ⟨d, hd⟩ : ∃ d, d = upd c 0 (r : Int) := ⟨_, rfl⟩
  have dq : d 12 = c 12 := by rw [hd]; rfl
  rw [← hd] at k3
  have HD := Lib.hid hd
  clear hd
  have kz := z3.drew
  refine wp_region_held_drew (S := fun w' => Blk w' w.heap.size (csA d) 24) (by kernel_rfl) (k3.drew) (fun hHeld => ?_)
  refine wpAnyH_take (i := 0) (v := csV d) rfl (by kernel_rfl) (by kernel_rfl) (by kernel_rfl) (fun _ _ _ h => h) (yl_cs rfl (by rfl) (by rfl) fun _ h => h) (by assumption) ?_
  try simp only [List.getElem_toArray, List.getElem_cons_succ, List.getElem_cons_zero, Act.put, List.setIfInBounds_toArray, List.set_cons_zero, List.set_cons_succ]
  refine wpAnyH_take (i := 1) (v := ?_) rfl (by kernel_rfl) (by kernel_rfl) (by kernel_rfl) (fun _ _ _ h => h) (Or.inl ⟨by rfl, ?_⟩) (by assumption) ?_
  rotate_left
  · intro wx hSw
    have hSc : wx.cell? ⟨w.heap.size, 12, none⟩ = some (.int .u64 (c 12)) := by rw [hSw.cell, csA_12, dq]
    clear hSw
    go_simp
    try with_reducible rfl
  try simp only [List.getElem_toArray, List.getElem_cons_succ, List.getElem_cons_zero, Act.put, List.setIfInBounds_toArray, List.set_cons_zero, List.set_cons_succ]
  refine wpAnyH_take (i := 2) (v := ?_) rfl (by kernel_rfl) (by kernel_rfl) (by kernel_rfl) (fun _ _ _ h => h) (Or.inl ⟨by rfl, ?_⟩) (by assumption) ?_
  rotate_left
  · intro wx hSw
    have hSc : wx.cell? ⟨w.heap.size, 12, none⟩ = some (.int .u64 (c 12)) := by rw [hSw.cell, csA_12, dq]
    clear hSw
    go_simp
    try with_reducible rfl
  try simp only [List.getElem_toArray, List.getElem_cons_succ, List.getElem_cons_zero, Act.put, List.setIfInBounds_toArray, List.set_cons_zero, List.set_cons_succ]
  refine wpAnyH_take (i := 3) (v := ?_) rfl (by kernel_rfl) (by kernel_rfl) (by kernel_rfl) (fun _ _ _ h => h) (Or.inl ⟨by rfl, ?_⟩) (by assumption) ?_
  rotate_left
  · intro wx hSw
    have hSc : wx.cell? ⟨w.heap.size, 12, none⟩ = some (.int .u64 (c 12)) := by rw [hSw.cell, csA_12, dq]
    clear hSw
    go_simp
    try with_reducible rfl
  try simp only [List.getElem_toArray, List.getElem_cons_succ, List.getElem_cons_zero, Act.put, List.setIfInBounds_toArray, List.set_cons_zero, List.set_cons_succ]
  refine wpAnyH_ready (rs := [4]) (by kernel_rfl) (by simp) ?_
  refine AllReadyH.cons rfl (fun K hK => ?_) AllReadyH.nil
  rw [if_pos (by rfl)]
  refine wp_store_row 24 (.tmp 2) (.tmp 16) rfl (w.heap.size + 1) (csA d) (by rfl) (by rfl) _ _ kz csInfo rfl (csA_one d) ?_
  have kl := kz.setRow (cs := csA d)
  have gl := (g3.drew1).setRow (b := w.heap.size + 1) (Nat.le_succ_of_le hgs) (csA d)
  have hl := (Blk.otherRow (g := w.heap.size + 1) (new := csA d) hHeld (by omega))
  refine hK.out _ _ hl (fun hHeld => ?_)
  clear hK K hl
  try simp only [List.getElem_toArray, List.getElem_cons_succ, List.getElem_cons_zero, Act.put, List.setIfInBounds_toArray, List.set_cons_zero, List.set_cons_succ]
  refine wpAnyH_take (i := 5) (v := ?_) rfl (by kernel_rfl) (by kernel_rfl) (by kernel_rfl) (fun _ _ _ h => h) (Or.inl ⟨by rfl, ?_⟩) (by assumption) ?_
  rotate_left
  · intro wx hSw
    have hSc : wx.cell? ⟨w.heap.size, 12, none⟩ = some (.int .u64 (c 12)) := by rw [hSw.cell, csA_12, dq]
    clear hSw
    go_simp
    try with_reducible rfl
  try simp only [List.getElem_toArray, List.getElem_cons_succ, List.getElem_cons_zero, Act.put, List.setIfInBounds_toArray, List.set_cons_zero, List.set_cons_succ]
  refine wpAnyH_take (i := 6) (v := ?_) rfl (by kernel_rfl) (by kernel_rfl) (by kernel_rfl) (fun _ _ _ h => h) (Or.inl ⟨by rfl, ?_⟩) (by assumption) ?_
  rotate_left
  · intro wx hSw
    have hSc : wx.cell? ⟨w.heap.size, 12, none⟩ = some (.int .u64 (c 12)) := by rw [hSw.cell, csA_12, dq]
    clear hSw
    go_simp
    try with_reducible rfl
  try simp only [List.getElem_toArray, List.getElem_cons_succ, List.getElem_cons_zero, Act.put, List.setIfInBounds_toArray, List.set_cons_zero, List.set_cons_succ]
  refine wpAnyH_done (by kernel_rfl) ?_ _
  try simp only [List.getElem_toArray, List.getElem_cons_succ, List.getElem_cons_zero, Act.put, List.setIfInBounds_toArray, List.set_cons_zero, List.set_cons_succ]
  go_wp2_with fail
  exact bodyPost_ret (v := .tuple #[csV d, .int .i64 (ofP s 8 1 : Nat), .int .u64 (c 12)]) (results_cs3 (p := 2) (q := 3) (r := 4) Tryd.results14 _ _ (w.heap.size + 1) kl rfl) rfl ⟨by rw [HD.out], gl⟩

end Go.Proofs.YtbkbbcfhmjodlaaDoor
