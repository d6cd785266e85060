/-
  Package trap: Enter.
-/
import Derived.Test.YtbkbbcfhmjodlaaDoorTrpG
set_option linter.unusedVariables false
set_option linter.unusedSimpArgs false
namespace Go.Proofs.YtbkbbcfhmjodlaaDoor
open Go.RowKit

theorem enter_r (a b c m s : Nat) (p : Int) (ha : a < 64) (hb : b < 64) (hc : c < 64) (hm : m < 4) (hmc : m * 2 ^ c < 2 ^ 64) (hs : s < 2 ^ 64) (r : Nat) (hr : r = setP (setP (setP s b 1 (ofP s a 1)) a 1 0) c m (whN p)) {W w : World} (hg : Grew W w) :
    Calls Tryd.prog 23 #[partsV a b c m, .int .u64 (s : Nat), .int .i64 p] w fun e w' => e = .returned (.int .u64 (r : Nat)) ∧ Grew W w' := by
  subst hr
  exact enter_c a b c m s p ha hb hc hm hmc hs hg

set_option maxRecDepth 100000 in
set_option maxHeartbeats 2000000 in
theorem enterp_s (c : Nat → Int) (s dl k r : Nat) (p pc cause tval y x : Int) (irq lo b : Bool) (hs : s < 2 ^ 64) (c0 : c 0 = (s : Int)) (hd : dl < 2 ^ 64) (cd : delV c irq = (dl : Int)) (hk : IntKind.u64.wrap cause = (k : Int)) (hk1 : k < 2 ^ 64) (hr : r = setP (setP (setP s 5 1 (ofP s 1 1)) 1 1 0) 8 1 (whN p)) (hy : whyV k irq = y) (hx : bits .andNot .u64 pc 1 = x)
    (v0 : 0 ≤ c 10) (v1 : c 10 < 18446744073709551616) (p1 : decide (p ≤ 1) = lo) (pb : (((bitN dl (k % 64) : Nat) : Int) == 1) = b) (hlb : (lo && b) = true) {W w : World} (hg : Grew W w) :
    Calls Tryd.prog 10 #[csV c, .int .i64 p, .int .u64 pc, .int .i64 cause, .bool irq, .int .u64 tval] w fun e w' => e = .returned (.tuple #[csV (upd (upd (upd (upd c 0 (r : Int)) 13 (y)) 12 (x)) 14 (tval)), .int .i64 1, .int .u64 (placeV (c 10) k irq)]) ∧ Grew W w' := by
  have hgs := hg.size
  have HS := Lib.hid hs
  have HR := Lib.hid hr
  have HK := Lib.hid hk
  have HY := Lib.hid hy
  have HDG := fun {w' : World} (hg : Grew w' w') => delegated_c c p cause irq dl k hd cd hk hk1 lo b p1 pb hg
  rw [hlb] at HDG
  clear hs hr hk hy hd cd hk1 p1 pb hlb
  go_enter Tryd.func10, Tryd.ntmps10
  go_upto_region 1 with fail
  refine wp_gen2 hg ?_
  intro w1 kb kz g1
  change Blk w1 (w.heap.size + 1) (csA fun _ => 0) 24 at kz
  go_upto_region 2 with fail
  clear hx
  go_wp2_with (first
    | ((with_reducible refine ld_cs rfl (.tmp 6) rfl _ rfl kb ?_ ?_); (rotate_left 1))
    | fail)
  rotate_left
  · rfl
  refine (HDG (Grew.refl _)).mono ?_
  rintro e w3 ⟨rfl, g3'⟩
  have g3 := g1.trans g3'
  have k3 := kb.grew g3'
  have z3 := kz.grew g3'
  clear g1 kb kz g3' HDG
  have yz := fun z : Over w3 => k3.overCell 0 (.int .u64 (s : Nat)) (by rw [csA_0, c0]) z
  go_wp2_with fail
  refine region_over_tail 6 (by kernel_rfl) (by kernel_rfl) ?_
  simp only [List.take_succ_cons, List.take_zero, List.drop_succ_cons, List.drop_zero]
  repeat (first | go_big_quiet_step ((first | (go_at_call 21; with_reducible exact over_eq (supervisor_c (Over.g _))) | (go_at_call 23; with_reducible exact over_eq (enter_r 1 5 8 1 s p (by decide) (by decide) (by decide) (by decide) (by decide) HS.out r HR.out (Over.g _))))) | quiet_step ((first | (go_at_call 21; with_reducible exact over_eq (supervisor_c (Over.g _))) | (go_at_call 23; with_reducible exact over_eq (enter_r 1 5 8 1 s p (by decide) (by decide) (by decide) (by decide) (by decide) HS.out r HR.out (Over.g _))))))
  refine wpQuiet_nil ?_
  intro z
  have g4 := g3.trans z.g
  have k4 := k3.over z
  have z4 := z3.over z
  generalize z.w = w4 at *
  have y0 : w4.cell? ⟨w.heap.size, 0, none⟩ = some (.int .u64 (s : Nat)) := by rw [k4.cell, csA_0, c0]
  have f0 := k4.free 0
  clear yz z g3 k3 z3
  go_upto_region 4 with fail
  have k5 : Blk (World.setCell (w4) ⟨w.heap.size, 0, none⟩ (.int .u64 ((r : Int)))) w.heap.size (csA (upd c 0 (r : Int))) 24 := by
    have := (k4).set (o := 0) (.int .u64 ((r : Int)))
    rw [csU_0] at this
    exact this
  have z5 := (z4).other (o := 0) (c := w.heap.size) (by omega) (.int .u64 ((r : Int)))
  have g5 : Grew W (World.setCell (w4) ⟨w.heap.size, 0, none⟩ (.int .u64 ((r : Int)))) := (g4).setCell hgs _
  clear y0 f0
  generalize World.setCell (w4) ⟨w.heap.size, 0, none⟩ (.int .u64 ((r : Int))) = w5 at *
  have y13 : w5.cell? ⟨w.heap.size, 13, none⟩ = some (.int .u64 (c 13)) := by rw [k5.cell, csA_13]; rfl
  have f13 := k5.free 13
  have y12 : w5.cell? ⟨w.heap.size, 12, none⟩ = some (.int .u64 (c 12)) := by rw [k5.cell, csA_12]; rfl
  have f12 := k5.free 12
  have y14 : w5.cell? ⟨w.heap.size, 14, none⟩ = some (.int .u64 (c 14)) := by rw [k5.cell, csA_14]; rfl
  have f14 := k5.free 14
  go_upto_region 5 with (go_at_call 24; refine (told_c cause k HK.out irq y HY.out _).mono ?_; rintro e w6 ⟨rfl, rfl⟩)
  have k6 : Blk (World.setCell (World.setCell (World.setCell w5 ⟨w.heap.size, 13, none⟩ (.int .u64 (y))) ⟨w.heap.size, 12, none⟩ (.int .u64 (x))) ⟨w.heap.size, 14, none⟩ (.int .u64 (tval))) w.heap.size (csA (upd (upd (upd (upd c 0 (r : Int)) 13 (y)) 12 (x)) 14 (tval))) 24 := by
    have := ((k5.set (o := 13) (.int .u64 (y))).set (o := 12) (.int .u64 (x))).set (o := 14) (.int .u64 (tval))
    rw [csU_13, csU_12, csU_14] at this
    exact this
  have z6 := ((z5.other (o := 13) (c := w.heap.size) (by omega) (.int .u64 (y))).other (o := 12) (c := w.heap.size) (by omega) (.int .u64 (x))).other (o := 14) (c := w.heap.size) (by omega) (.int .u64 (tval))
  have g6 : Grew W (World.setCell (World.setCell (World.setCell w5 ⟨w.heap.size, 13, none⟩ (.int .u64 (y))) ⟨w.heap.size, 12, none⟩ (.int .u64 (x))) ⟨w.heap.size, 14, none⟩ (.int .u64 (tval))) := (((g5.setCell hgs _).setCell hgs _).setCell hgs _)
  clear y13 f13 y12 f12 y14 f14
  generalize (World.setCell (World.setCell (World.setCell w5 ⟨w.heap.size, 13, none⟩ (.int .u64 (y))) ⟨w.heap.size, 12, none⟩ (.int .u64 (x))) ⟨w.heap.size, 14, none⟩ (.int .u64 (tval))) = w6 at *
  obtain ⟨d, hd⟩ : ∃ d, d = upd (upd (upd (upd c 0 (r : Int)) 13 (y)) 12 (x)) 14 (tval) := ⟨_, rfl⟩
  have dq : d 10 = c 10 := by rw [hd]; rfl
  rw [← hd] at k6
  have HD := Lib.hid hd
  clear hd
  have kz := z6.drew
  refine wp_region_held_drew (S := fun w' => Blk w' w.heap.size (csA d) 24) (by kernel_rfl) (k6.drew) (fun hHeld => ?_)
  refine wpAnyH_take (i := 0) (v := csV d) rfl (by kernel_rfl) (by kernel_rfl) (by kernel_rfl) (fun _ _ _ h => h) (yl_cs rfl (by rfl) (by rfl) fun _ h => h) (by assumption) ?_
  try simp only [List.getElem_toArray, List.getElem_cons_succ, List.getElem_cons_zero, Act.put, List.setIfInBounds_toArray, List.set_cons_zero, List.set_cons_succ]
  refine wpAnyH_take (i := 1) (v := ?_) rfl (by kernel_rfl) (by kernel_rfl) (by kernel_rfl) (fun _ _ _ h => h) (Or.inl ⟨by rfl, ?_⟩) (by assumption) ?_
  rotate_left
  · intro wx hSw
    have hSc : wx.cell? ⟨w.heap.size, 10, none⟩ = some (.int .u64 (c 10)) := by rw [hSw.cell, csA_10, dq]
    clear hSw
    go_simp
    try with_reducible rfl
  try simp only [List.getElem_toArray, List.getElem_cons_succ, List.getElem_cons_zero, Act.put, List.setIfInBounds_toArray, List.set_cons_zero, List.set_cons_succ]
  refine wpAnyH_take (i := 2) (v := ?_) rfl (by kernel_rfl) (by kernel_rfl) (by kernel_rfl) (fun _ _ _ h => h) (Or.inl ⟨by rfl, ?_⟩) (by assumption) ?_
  rotate_left
  · intro wx hSw
    have hSc : wx.cell? ⟨w.heap.size, 10, none⟩ = some (.int .u64 (c 10)) := by rw [hSw.cell, csA_10, dq]
    clear hSw
    go_simp
    try with_reducible rfl
  try simp only [List.getElem_toArray, List.getElem_cons_succ, List.getElem_cons_zero, Act.put, List.setIfInBounds_toArray, List.set_cons_zero, List.set_cons_succ]
  refine wpAnyH_take (i := 3) (v := ?_) rfl (by kernel_rfl) (by kernel_rfl) (by kernel_rfl) (fun _ _ _ h => h) (Or.inl ⟨by rfl, ?_⟩) (by assumption) ?_
  rotate_left
  · intro wx hSw
    have hSc : wx.cell? ⟨w.heap.size, 10, none⟩ = some (.int .u64 (c 10)) := by rw [hSw.cell, csA_10, dq]
    clear hSw
    go_simp
    try with_reducible rfl
  try simp only [List.getElem_toArray, List.getElem_cons_succ, List.getElem_cons_zero, Act.put, List.setIfInBounds_toArray, List.set_cons_zero, List.set_cons_succ]
  refine wpAnyH_take (i := 4) (v := ?_) rfl (by kernel_rfl) (by kernel_rfl) (by kernel_rfl) (fun _ _ _ h => h) (Or.inl ⟨by rfl, ?_⟩) (by assumption) ?_
  rotate_left
  · intro wx hSw
    have hSc : wx.cell? ⟨w.heap.size, 10, none⟩ = some (.int .u64 (c 10)) := by rw [hSw.cell, csA_10, dq]
    clear hSw
    go_simp
    try with_reducible rfl
  try simp only [List.getElem_toArray, List.getElem_cons_succ, List.getElem_cons_zero, Act.put, List.setIfInBounds_toArray, List.set_cons_zero, List.set_cons_succ]
  refine wpAnyH_ready (rs := [5]) (by kernel_rfl) (by simp) ?_
  refine AllReadyH.cons rfl (fun K hK => ?_) AllReadyH.nil
  go_simp
  go_at_call 25
  refine (lead_c (c 10) cause k HK.out irq v0 v1 _).mono ?_
  rintro e w' ⟨rfl, rfl⟩
  go_wp2_with fail
  refine hK.out _ _ (by assumption) (fun hHeld => ?_)
  clear hK K
  try simp only [List.getElem_toArray, List.getElem_cons_succ, List.getElem_cons_zero, Act.put, List.setIfInBounds_toArray, List.set_cons_zero, List.set_cons_succ]
  refine wpAnyH_ready (rs := [6]) (by kernel_rfl) (by simp) ?_
  refine AllReadyH.cons rfl (fun K hK => ?_) AllReadyH.nil
  rw [if_pos (by rfl)]
  refine wp_store_row 24 (.tmp 12) (.tmp 37) rfl (w.heap.size + 1) (csA d) (by rfl) (by rfl) _ _ kz csInfo rfl (csA_one d) ?_
  have kl := kz.setRow (cs := csA d)
  have gl := (g6.drew1).setRow (b := w.heap.size + 1) (Nat.le_succ_of_le hgs) (csA d)
  have hl := (Blk.otherRow (g := w.heap.size + 1) (new := csA d) hHeld (by omega))
  refine hK.out _ _ hl (fun hHeld => ?_)
  clear hK K hl
  try simp only [List.getElem_toArray, List.getElem_cons_succ, List.getElem_cons_zero, Act.put, List.setIfInBounds_toArray, List.set_cons_zero, List.set_cons_succ]
  refine wpAnyH_take (i := 7) (v := ?_) rfl (by kernel_rfl) (by kernel_rfl) (by kernel_rfl) (fun _ _ _ h => h) (Or.inl ⟨by rfl, ?_⟩) (by assumption) ?_
  rotate_left
  · intro wx hSw
    have hSc : wx.cell? ⟨w.heap.size, 10, none⟩ = some (.int .u64 (c 10)) := by rw [hSw.cell, csA_10, dq]
    clear hSw
    go_simp
    try with_reducible rfl
  try simp only [List.getElem_toArray, List.getElem_cons_succ, List.getElem_cons_zero, Act.put, List.setIfInBounds_toArray, List.set_cons_zero, List.set_cons_succ]
  refine wpAnyH_take (i := 8) (v := ?_) rfl (by kernel_rfl) (by kernel_rfl) (by kernel_rfl) (fun _ _ _ h => h) (Or.inl ⟨by rfl, ?_⟩) (by assumption) ?_
  rotate_left
  · intro wx hSw
    have hSc : wx.cell? ⟨w.heap.size, 10, none⟩ = some (.int .u64 (c 10)) := by rw [hSw.cell, csA_10, dq]
    clear hSw
    go_simp
    try with_reducible rfl
  try simp only [List.getElem_toArray, List.getElem_cons_succ, List.getElem_cons_zero, Act.put, List.setIfInBounds_toArray, List.set_cons_zero, List.set_cons_succ]
  refine wpAnyH_done (by kernel_rfl) ?_ _
  try simp only [List.getElem_toArray, List.getElem_cons_succ, List.getElem_cons_zero, Act.put, List.setIfInBounds_toArray, List.set_cons_zero, List.set_cons_succ]
  go_wp2_with fail
  exact bodyPost_ret (v := .tuple #[csV d, .int .i64 1, .int .u64 (placeV (c 10) k irq)]) (results_cs3 (p := 12) (q := 13) (r := 14) Tryd.results10 _ _ (w.heap.size + 1) kl rfl) rfl ⟨by rw [HD.out], gl⟩

set_option maxRecDepth 100000 in
set_option maxHeartbeats 2000000 in
theorem enterp_m (c : Nat → Int) (s dl k r : Nat) (p pc cause tval y x : Int) (irq lo b : Bool) (hs : s < 2 ^ 64) (c0 : c 0 = (s : Int)) (hd : dl < 2 ^ 64) (cd : delV c irq = (dl : Int)) (hk : IntKind.u64.wrap cause = (k : Int)) (hk1 : k < 2 ^ 64) (hr : r = setP (setP (setP s 7 1 (ofP s 3 1)) 3 1 0) 11 3 (whN p)) (hy : whyV k irq = y) (hx : bits .andNot .u64 pc 1 = x)
    (v0 : 0 ≤ c 5) (v1 : c 5 < 18446744073709551616) (p1 : decide (p ≤ 1) = lo) (pb : (((bitN dl (k % 64) : Nat) : Int) == 1) = b) (hlb : (lo && b) = false) {W w : World} (hg : Grew W w) :
    Calls Tryd.prog 10 #[csV c, .int .i64 p, .int .u64 pc, .int .i64 cause, .bool irq, .int .u64 tval] w fun e w' => e = .returned (.tuple #[csV (upd (upd (upd (upd c 0 (r : Int)) 8 (y)) 7 (x)) 9 (tval)), .int .i64 3, .int .u64 (placeV (c 5) k irq)]) ∧ Grew W w' := by
  have hgs := hg.size
  have HS := Lib.hid hs
  have HR := Lib.hid hr
  have HK := Lib.hid hk
  have HY := Lib.hid hy
  have HDG := fun {w' : World} (hg : Grew w' w') => delegated_c c p cause irq dl k hd cd hk hk1 lo b p1 pb hg
  rw [hlb] at HDG
  clear hs hr hk hy hd cd hk1 p1 pb hlb
  go_enter Tryd.func10, Tryd.ntmps10
  go_upto_region 1 with fail
  refine wp_gen2 hg ?_
  intro w1 kb kz g1
  change Blk w1 (w.heap.size + 1) (csA fun _ => 0) 24 at kz
  go_upto_region 2 with fail
  clear hx
  go_wp2_with (first
    | ((with_reducible refine ld_cs rfl (.tmp 6) rfl _ rfl kb ?_ ?_); (rotate_left 1))
    | fail)
  rotate_left
  · rfl
  refine (HDG (Grew.refl _)).mono ?_
  rintro e w3 ⟨rfl, g3'⟩
  have g3 := g1.trans g3'
  have k3 := kb.grew g3'
  have z3 := kz.grew g3'
  clear g1 kb kz g3' HDG
  have yz := fun z : Over w3 => k3.overCell 0 (.int .u64 (s : Nat)) (by rw [csA_0, c0]) z
  go_wp2_with fail
  refine region_over_tail 6 (by kernel_rfl) (by kernel_rfl) ?_
  simp only [List.take_succ_cons, List.take_zero, List.drop_succ_cons, List.drop_zero]
  repeat (first | go_big_quiet_step ((first | (go_at_call 18; with_reducible exact over_eq (machine_c (Over.g _))) | (go_at_call 23; with_reducible exact over_eq (enter_r 3 7 11 3 s p (by decide) (by decide) (by decide) (by decide) (by decide) HS.out r HR.out (Over.g _))))) | quiet_step ((first | (go_at_call 18; with_reducible exact over_eq (machine_c (Over.g _))) | (go_at_call 23; with_reducible exact over_eq (enter_r 3 7 11 3 s p (by decide) (by decide) (by decide) (by decide) (by decide) HS.out r HR.out (Over.g _))))))
  refine wpQuiet_nil ?_
  intro z
  have g4 := g3.trans z.g
  have k4 := k3.over z
  have z4 := z3.over z
  generalize z.w = w4 at *
  have y0 : w4.cell? ⟨w.heap.size, 0, none⟩ = some (.int .u64 (s : Nat)) := by rw [k4.cell, csA_0, c0]
  have f0 := k4.free 0
  clear yz z g3 k3 z3
  go_upto_region 7 with fail
  have k5 : Blk (World.setCell (w4) ⟨w.heap.size, 0, none⟩ (.int .u64 ((r : Int)))) w.heap.size (csA (upd c 0 (r : Int))) 24 := by
    have := (k4).set (o := 0) (.int .u64 ((r : Int)))
    rw [csU_0] at this
    exact this
  have z5 := (z4).other (o := 0) (c := w.heap.size) (by omega) (.int .u64 ((r : Int)))
  have g5 : Grew W (World.setCell (w4) ⟨w.heap.size, 0, none⟩ (.int .u64 ((r : Int)))) := (g4).setCell hgs _
  clear y0 f0
  generalize World.setCell (w4) ⟨w.heap.size, 0, none⟩ (.int .u64 ((r : Int))) = w5 at *
  have y8 : w5.cell? ⟨w.heap.size, 8, none⟩ = some (.int .u64 (c 8)) := by rw [k5.cell, csA_8]; rfl
  have f8 := k5.free 8
  have y7 : w5.cell? ⟨w.heap.size, 7, none⟩ = some (.int .u64 (c 7)) := by rw [k5.cell, csA_7]; rfl
  have f7 := k5.free 7
  have y9 : w5.cell? ⟨w.heap.size, 9, none⟩ = some (.int .u64 (c 9)) := by rw [k5.cell, csA_9]; rfl
  have f9 := k5.free 9
  go_upto_region 8 with (go_at_call 24; refine (told_c cause k HK.out irq y HY.out _).mono ?_; rintro e w6 ⟨rfl, rfl⟩)
  have k6 : Blk (World.setCell (World.setCell (World.setCell w5 ⟨w.heap.size, 8, none⟩ (.int .u64 (y))) ⟨w.heap.size, 7, none⟩ (.int .u64 (x))) ⟨w.heap.size, 9, none⟩ (.int .u64 (tval))) w.heap.size (csA (upd (upd (upd (upd c 0 (r : Int)) 8 (y)) 7 (x)) 9 (tval))) 24 := by
    have := ((k5.set (o := 8) (.int .u64 (y))).set (o := 7) (.int .u64 (x))).set (o := 9) (.int .u64 (tval))
    rw [csU_8, csU_7, csU_9] at this
    exact this
  have z6 := ((z5.other (o := 8) (c := w.heap.size) (by omega) (.int .u64 (y))).other (o := 7) (c := w.heap.size) (by omega) (.int .u64 (x))).other (o := 9) (c := w.heap.size) (by omega) (.int .u64 (tval))
  have g6 : Grew W (World.setCell (World.setCell (World.setCell w5 ⟨w.heap.size, 8, none⟩ (.int .u64 (y))) ⟨w.heap.size, 7, none⟩ (.int .u64 (x))) ⟨w.heap.size, 9, none⟩ (.int .u64 (tval))) := (((g5.setCell hgs _).setCell hgs _).setCell hgs _)
  clear y8 f8 y7 f7 y9 f9
  generalize (World.setCell (World.setCell (World.setCell w5 ⟨w.heap.size, 8, none⟩ (.int .u64 (y))) ⟨w.heap.size, 7, none⟩ (.int .u64 (x))) ⟨w.heap.size, 9, none⟩ (.int .u64 (tval))) = w6 at *
  obtain ⟨d, hd⟩ : ∃ d, d = upd (upd (upd (upd c 0 (r : Int)) 8 (y)) 7 (x)) 9 (tval) := ⟨_, rfl⟩
  have dq : d 5 = c 5 := by rw [hd]; rfl
  rw [← hd] at k6
  have HD := Lib.hid hd
  clear hd
  have kz := z6.drew
  refine wp_region_held_drew (S := fun w' => Blk w' w.heap.size (csA d) 24) (by kernel_rfl) (k6.drew) (fun hHeld => ?_)
  refine wpAnyH_take (i := 0) (v := csV d) rfl (by kernel_rfl) (by kernel_rfl) (by kernel_rfl) (fun _ _ _ h => h) (yl_cs rfl (by rfl) (by rfl) fun _ h => h) (by assumption) ?_
  try simp only [List.getElem_toArray, List.getElem_cons_succ, List.getElem_cons_zero, Act.put, List.setIfInBounds_toArray, List.set_cons_zero, List.set_cons_succ]
  refine wpAnyH_take (i := 1) (v := ?_) rfl (by kernel_rfl) (by kernel_rfl) (by kernel_rfl) (fun _ _ _ h => h) (Or.inl ⟨by rfl, ?_⟩) (by assumption) ?_
  rotate_left
  · intro wx hSw
    have hSc : wx.cell? ⟨w.heap.size, 5, none⟩ = some (.int .u64 (c 5)) := by rw [hSw.cell, csA_5, dq]
    clear hSw
    go_simp
    try with_reducible rfl
  try simp only [List.getElem_toArray, List.getElem_cons_succ, List.getElem_cons_zero, Act.put, List.setIfInBounds_toArray, List.set_cons_zero, List.set_cons_succ]
  refine wpAnyH_take (i := 2) (v := ?_) rfl (by kernel_rfl) (by kernel_rfl) (by kernel_rfl) (fun _ _ _ h => h) (Or.inl ⟨by rfl, ?_⟩) (by assumption) ?_
  rotate_left
  · intro wx hSw
    have hSc : wx.cell? ⟨w.heap.size, 5, none⟩ = some (.int .u64 (c 5)) := by rw [hSw.cell, csA_5, dq]
    clear hSw
    go_simp
    try with_reducible rfl
  try simp only [List.getElem_toArray, List.getElem_cons_succ, List.getElem_cons_zero, Act.put, List.setIfInBounds_toArray, List.set_cons_zero, List.set_cons_succ]
  refine wpAnyH_take (i := 3) (v := ?_) rfl (by kernel_rfl) (by kernel_rfl) (by kernel_rfl) (fun _ _ _ h => h) (Or.inl ⟨by rfl, ?_⟩) (by assumption) ?_
  rotate_left
  · intro wx hSw
    have hSc : wx.cell? ⟨w.heap.size, 5, none⟩ = some (.int .u64 (c 5)) := by rw [hSw.cell, csA_5, dq]
    clear hSw
    go_simp
    try with_reducible rfl
  try simp only [List.getElem_toArray, List.getElem_cons_succ, List.getElem_cons_zero, Act.put, List.setIfInBounds_toArray, List.set_cons_zero, List.set_cons_succ]
  refine wpAnyH_take (i := 4) (v := ?_) rfl (by kernel_rfl) (by kernel_rfl) (by kernel_rfl) (fun _ _ _ h => h) (Or.inl ⟨by rfl, ?_⟩) (by assumption) ?_
  rotate_left
  · intro wx hSw
    have hSc : wx.cell? ⟨w.heap.size, 5, none⟩ = some (.int .u64 (c 5)) := by rw [hSw.cell, csA_5, dq]
    clear hSw
    go_simp
    try with_reducible rfl
  try simp only [List.getElem_toArray, List.getElem_cons_succ, List.getElem_cons_zero, Act.put, List.setIfInBounds_toArray, List.set_cons_zero, List.set_cons_succ]
  refine wpAnyH_ready (rs := [5]) (by kernel_rfl) (by simp) ?_
  refine AllReadyH.cons rfl (fun K hK => ?_) AllReadyH.nil
  go_simp
  go_at_call 25
  refine (lead_c (c 5) cause k HK.out irq v0 v1 _).mono ?_
  rintro e w' ⟨rfl, rfl⟩
  go_wp2_with fail
  refine hK.out _ _ (by assumption) (fun hHeld => ?_)
  clear hK K
  try simp only [List.getElem_toArray, List.getElem_cons_succ, List.getElem_cons_zero, Act.put, List.setIfInBounds_toArray, List.set_cons_zero, List.set_cons_succ]
  refine wpAnyH_ready (rs := [6]) (by kernel_rfl) (by simp) ?_
  refine AllReadyH.cons rfl (fun K hK => ?_) AllReadyH.nil
  rw [if_pos (by rfl)]
  refine wp_store_row 24 (.tmp 12) (.tmp 57) rfl (w.heap.size + 1) (csA d) (by rfl) (by rfl) _ _ kz csInfo rfl (csA_one d) ?_
  have kl := kz.setRow (cs := csA d)
  have gl := (g6.drew1).setRow (b := w.heap.size + 1) (Nat.le_succ_of_le hgs) (csA d)
  have hl := (Blk.otherRow (g := w.heap.size + 1) (new := csA d) hHeld (by omega))
  refine hK.out _ _ hl (fun hHeld => ?_)
  clear hK K hl
  try simp only [List.getElem_toArray, List.getElem_cons_succ, List.getElem_cons_zero, Act.put, List.setIfInBounds_toArray, List.set_cons_zero, List.set_cons_succ]
  refine wpAnyH_take (i := 7) (v := ?_) rfl (by kernel_rfl) (by kernel_rfl) (by kernel_rfl) (fun _ _ _ h => h) (Or.inl ⟨by rfl, ?_⟩) (by assumption) ?_
  rotate_left
  · intro wx hSw
    have hSc : wx.cell? ⟨w.heap.size, 5, none⟩ = some (.int .u64 (c 5)) := by rw [hSw.cell, csA_5, dq]
    clear hSw
    go_simp
    try with_reducible rfl
  try simp only [List.getElem_toArray, List.getElem_cons_succ, List.getElem_cons_zero, Act.put, List.setIfInBounds_toArray, List.set_cons_zero, List.set_cons_succ]
  refine wpAnyH_take (i := 8) (v := ?_) rfl (by kernel_rfl) (by kernel_rfl) (by kernel_rfl) (fun _ _ _ h => h) (Or.inl ⟨by rfl, ?_⟩) (by assumption) ?_
  rotate_left
  · intro wx hSw
    have hSc : wx.cell? ⟨w.heap.size, 5, none⟩ = some (.int .u64 (c 5)) := by rw [hSw.cell, csA_5, dq]
    clear hSw
    go_simp
    try with_reducible rfl
  try simp only [List.getElem_toArray, List.getElem_cons_succ, List.getElem_cons_zero, Act.put, List.setIfInBounds_toArray, List.set_cons_zero, List.set_cons_succ]
  refine wpAnyH_done (by kernel_rfl) ?_ _
  try simp only [List.getElem_toArray, List.getElem_cons_succ, List.getElem_cons_zero, Act.put, List.setIfInBounds_toArray, List.set_cons_zero, List.set_cons_succ]
  go_wp2_with fail
  exact bodyPost_ret (v := .tuple #[csV d, .int .i64 3, .int .u64 (placeV (c 5) k irq)]) (results_cs3 (p := 12) (q := 13) (r := 14) Tryd.results10 _ _ (w.heap.size + 1) kl rfl) rfl ⟨by rw [HD.out], gl⟩

end Go.Proofs.YtbkbbcfhmjodlaaDoor
