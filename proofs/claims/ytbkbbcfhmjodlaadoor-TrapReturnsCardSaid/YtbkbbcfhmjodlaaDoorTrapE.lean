/-
  The document's way into a trap (drawbridgeref06): Enter.
-/
import Derived.Test.YtbkbbcfhmjodlaaDoorTrapD
set_option linter.unusedVariables false
set_option linter.unusedSimpArgs false
namespace Go.Proofs.YtbkbbcfhmjodlaaDoor
open Go.RowKit

/-- Where a trap's cause and the register of delegation stand: of an interrupt, of none. -/
def whyV (k : Int) (irq : Bool) : Int := if irq = true then bits .or .u64 k 9223372036854775808 else k
def delV (c : Nat → Int) (irq : Bool) : Int := if irq = true then c 2 else c 1

set_option maxRecDepth 100000 in
set_option maxHeartbeats 2000000 in
theorem ent_s_irq (c : Nat → Int) (s dl k b : Nat) (p pc cause tval y : Int) (hs : s < 2 ^ 64) (c0 : c 0 = (s : Int)) (hd : dl < 2 ^ 64) (cd : c 2 = (dl : Int)) (hk : IntKind.u64.wrap cause = (k : Int)) (hk1 : k < 2 ^ 64) (hb : b < 2) (hp : IntKind.u64.wrap p % 2 = (b : Int)) (hy : whyV k true = y)
    (v0 : 0 ≤ c 10) (v1 : c 10 < 18446744073709551616) (p1 : decide (p ≤ 1) = true) (pd : (((bitN dl (k % 64) : Nat) : Int) == 1) = true) {W w : World} (hg : Grew W w) :
    Calls Tryd.prog 11 #[csV c, .int .i64 p, .int .u64 pc, .int .i64 cause, .bool true, .int .u64 tval] w fun e w' => e = .returned (.tuple #[csV (upd (upd (upd (upd c 13 (y)) 12 (bits .andNot .u64 pc 1)) 14 (tval)) 0 ((setN (setN (setN s 5 (bitN s 1)) 1 0) 8 b : Nat) : Int)), .int .i64 1, .int .u64 (placeV (c 10) k true)]) ∧ Grew W w' := by
  have hgs := hg.size
  have HS := Lib.hid hs
  have HDL := Lib.hid hd
  have k0 : 0 ≤ (k : Int) := Int.natCast_nonneg _
  have k1 : (k : Int) < 18446744073709551616 := by omega
  have s1 := setN_lt s 5 _ hs (by decide) (bitN_lt s 1)
  have s2 := setN_lt _ 1 0 s1 (by decide) (by decide)
  have S1 := Lib.hid s1
  have S2 := Lib.hid s2
  have HB := Lib.hid hb
  have hm : ((k % 64 : Nat) : Int) = (k : Int) % 64 := by omega
  have HM := Lib.hid hm
  have hml := Lib.hid (show k % 64 < 64 by omega)
  clear hs hd hk1 s1 s2 hb hm
  simp only [whyV, if_true] at hy
  go_enter Tryd.func11, Tryd.ntmps11
  go_upto_region 1 with fail
  refine wp_gen2 hg ?_
  intro w1 kb kz g1
  change Blk w1 (w.heap.size + 1) (csA fun _ => 0) 24 at kz
  have y1 : w1.cell? ⟨w.heap.size, 1, none⟩ = some (.int .u64 (c 1)) := by rw [kb.cell, csA_1]
  have y2 : w1.cell? ⟨w.heap.size, 2, none⟩ = some (.int .u64 (c 2)) := by rw [kb.cell, csA_2]
  have ya : w1.cell? ⟨w.heap.size, 13, none⟩ = some (.int .u64 (c 13)) := by rw [kb.cell, csA_13]
  have yb : w1.cell? ⟨w.heap.size, 12, none⟩ = some (.int .u64 (c 12)) := by rw [kb.cell, csA_12]
  have yc : w1.cell? ⟨w.heap.size, 14, none⟩ = some (.int .u64 (c 14)) := by rw [kb.cell, csA_14]
  have fa := kb.free 13
  have fb := kb.free 12
  have fc := kb.free 14
  go_upto_region 9 with (go_at_call 26; refine (bit_l dl HDL.out (k % 64) _ HM.out.symm hml.out _).mono ?_; rintro e w2 ⟨rfl, rfl⟩)
  have k2 : Blk (World.setCell (World.setCell (World.setCell w1 ⟨w.heap.size, 13, none⟩ (.int .u64 (y))) ⟨w.heap.size, 12, none⟩ (.int .u64 (bits .andNot .u64 pc 1))) ⟨w.heap.size, 14, none⟩ (.int .u64 (tval))) w.heap.size (csA (upd (upd (upd c 13 (y)) 12 (bits .andNot .u64 pc 1)) 14 (tval))) 24 := by
    have := ((kb.set (o := 13) (.int .u64 (y))).set (o := 12) (.int .u64 (bits .andNot .u64 pc 1))).set (o := 14) (.int .u64 (tval))
    rw [csU_13, csU_12, csU_14] at this
    exact this
  have z2 := ((kz.other (o := 13) (c := w.heap.size) (by omega) (.int .u64 (y))).other (o := 12) (c := w.heap.size) (by omega) (.int .u64 (bits .andNot .u64 pc 1))).other (o := 14) (c := w.heap.size) (by omega) (.int .u64 (tval))
  have g2 : Grew W (World.setCell (World.setCell (World.setCell w1 ⟨w.heap.size, 13, none⟩ (.int .u64 (y))) ⟨w.heap.size, 12, none⟩ (.int .u64 (bits .andNot .u64 pc 1))) ⟨w.heap.size, 14, none⟩ (.int .u64 (tval))) := (((g1.setCell hgs _).setCell hgs _).setCell hgs _)
  have hp' : (IntKind.u64.wrap p).tmod 2 = (b : Int) := by rw [Int.tmod_eq_emod_of_nonneg (by rw [wrap_u64]; omega)]; exact hp
  clear y1 y2 ya yb yc fa fb fc
  have y0 : ((World.setCell (World.setCell (World.setCell w1 ⟨w.heap.size, 13, none⟩ (.int .u64 (y))) ⟨w.heap.size, 12, none⟩ (.int .u64 (bits .andNot .u64 pc 1))) ⟨w.heap.size, 14, none⟩ (.int .u64 (tval)))).cell? ⟨w.heap.size, 0, none⟩ = some (.int .u64 (s : Nat)) := by rw [k2.cell, csA_0]; show some (Value.int .u64 (c 0)) = _; rw [c0]
  have f0 := k2.free 0
  generalize (World.setCell (World.setCell (World.setCell w1 ⟨w.heap.size, 13, none⟩ (.int .u64 (y))) ⟨w.heap.size, 12, none⟩ (.int .u64 (bits .andNot .u64 pc 1))) ⟨w.heap.size, 14, none⟩ (.int .u64 (tval))) = w2 at *
  refine region_quiet_tail 12 (by kernel_rfl) (by kernel_rfl) ?_
  simp only [List.take_succ_cons, List.take_zero, List.drop_succ_cons, List.drop_zero]
  repeat (first
    | go_big_quiet_step ((first | (go_at_call 26; with_reducible exact quiet_eq (bit_l s HS.out 1 1 rfl (by decide) _)) | (go_at_call 27; with_reducible exact quiet_eq (set_l s HS.out 5 5 rfl (by decide) (bitN s 1) ((bitN s 1 : Nat) : Int) rfl (bitN_lt _ _) _)) | (go_at_call 27; with_reducible exact quiet_eq (set_l _ S1.out 1 1 rfl (by decide) 0 0 rfl (by decide) _)) | (go_at_call 27; with_reducible exact quiet_eq (set_l _ S2.out 8 8 rfl (by decide) b (b : Int) rfl HB.out _))))
    | quiet_step ((first | (go_at_call 26; with_reducible exact quiet_eq (bit_l s HS.out 1 1 rfl (by decide) _)) | (go_at_call 27; with_reducible exact quiet_eq (set_l s HS.out 5 5 rfl (by decide) (bitN s 1) ((bitN s 1 : Nat) : Int) rfl (bitN_lt _ _) _)) | (go_at_call 27; with_reducible exact quiet_eq (set_l _ S1.out 1 1 rfl (by decide) 0 0 rfl (by decide) _)) | (go_at_call 27; with_reducible exact quiet_eq (set_l _ S2.out 8 8 rfl (by decide) b (b : Int) rfl HB.out _)))))
  refine wpQuiet_nil ?_
  intro nq
  go_upto_region 10 with fail
  have k3 : Blk (World.setCell (w2.drewN nq) ⟨w.heap.size, 0, none⟩ (.int .u64 (((setN (setN (setN s 5 (bitN s 1)) 1 0) 8 b : Nat) : Int)))) w.heap.size (csA (upd (upd (upd (upd c 13 (y)) 12 (bits .andNot .u64 pc 1)) 14 (tval)) 0 ((setN (setN (setN s 5 (bitN s 1)) 1 0) 8 b : Nat) : Int))) 24 := by
    have := (k2.drewN nq).set (o := 0) (.int .u64 (((setN (setN (setN s 5 (bitN s 1)) 1 0) 8 b : Nat) : Int)))
    rw [csU_0] at this
    exact this
  have z3 := (z2.drewN nq).other (o := 0) (c := w.heap.size) (by omega) (.int .u64 (((setN (setN (setN s 5 (bitN s 1)) 1 0) 8 b : Nat) : Int)))
  have g3 : Grew W (World.setCell (w2.drewN nq) ⟨w.heap.size, 0, none⟩ (.int .u64 (((setN (setN (setN s 5 (bitN s 1)) 1 0) 8 b : Nat) : Int)))) := (g2.drewN nq).setCell hgs _
  clear y0 f0
  generalize World.setCell (w2.drewN nq) ⟨w.heap.size, 0, none⟩ (.int .u64 (((setN (setN (setN s 5 (bitN s 1)) 1 0) 8 b : Nat) : Int))) = w3 at *
  obtain ⟨d, hd⟩ : ∃ d, d = upd (upd (upd (upd c 13 (y)) 12 (bits .andNot .u64 pc 1)) 14 (tval)) 0 ((setN (setN (setN s 5 (bitN s 1)) 1 0) 8 b : Nat) : Int) := ⟨_, rfl⟩
  have dq : d 10 = c 10 := by rw [hd]; rfl
  rw [← hd] at k3
  have HD := Lib.hid hd
  clear hd
  have kz := z3.drew
  refine wp_region_held_drew (S := fun w' => Blk w' w.heap.size (csA d) 24) (by kernel_rfl) (k3.drew) (fun hHeld => ?_)
  refine wpAnyH_take (i := 0) (v := csV d) rfl (by kernel_rfl) (by kernel_rfl) (by kernel_rfl) (fun _ _ _ h => h) (yl_cs rfl (by rfl) (by rfl) fun _ h => h) (by assumption) ?_
  try simp only [List.getElem_toArray, List.getElem_cons_succ, List.getElem_cons_zero, Act.put, List.setIfInBounds_toArray, List.set_cons_zero, List.set_cons_succ]
  refine wpAnyH_take (i := 1) (v := ?_) rfl (by kernel_rfl) (by kernel_rfl) (by kernel_rfl) (fun _ _ _ h => h) (Or.inl ⟨by rfl, ?_⟩) (by assumption) ?_
  rotate_left
  · intro wx hSw
    have hSc : wx.cell? ⟨w.heap.size, 10, none⟩ = some (.int .u64 (c 10)) := by rw [hSw.cell, csA_10, dq]
    clear hSw
    go_simp
    try with_reducible rfl
  try simp only [List.getElem_toArray, List.getElem_cons_succ, List.getElem_cons_zero, Act.put, List.setIfInBounds_toArray, List.set_cons_zero, List.set_cons_succ]
  refine wpAnyH_take (i := 2) (v := ?_) rfl (by kernel_rfl) (by kernel_rfl) (by kernel_rfl) (fun _ _ _ h => h) (Or.inl ⟨by rfl, ?_⟩) (by assumption) ?_
  rotate_left
  · intro wx hSw
    have hSc : wx.cell? ⟨w.heap.size, 10, none⟩ = some (.int .u64 (c 10)) := by rw [hSw.cell, csA_10, dq]
    clear hSw
    go_simp
    try with_reducible rfl
  try simp only [List.getElem_toArray, List.getElem_cons_succ, List.getElem_cons_zero, Act.put, List.setIfInBounds_toArray, List.set_cons_zero, List.set_cons_succ]
  refine wpAnyH_take (i := 3) (v := ?_) rfl (by kernel_rfl) (by kernel_rfl) (by kernel_rfl) (fun _ _ _ h => h) (Or.inl ⟨by rfl, ?_⟩) (by assumption) ?_
  rotate_left
  · intro wx hSw
    have hSc : wx.cell? ⟨w.heap.size, 10, none⟩ = some (.int .u64 (c 10)) := by rw [hSw.cell, csA_10, dq]
    clear hSw
    go_simp
    try with_reducible rfl
  try simp only [List.getElem_toArray, List.getElem_cons_succ, List.getElem_cons_zero, Act.put, List.setIfInBounds_toArray, List.set_cons_zero, List.set_cons_succ]
  refine wpAnyH_take (i := 4) (v := ?_) rfl (by kernel_rfl) (by kernel_rfl) (by kernel_rfl) (fun _ _ _ h => h) (Or.inl ⟨by rfl, ?_⟩) (by assumption) ?_
  rotate_left
  · intro wx hSw
    have hSc : wx.cell? ⟨w.heap.size, 10, none⟩ = some (.int .u64 (c 10)) := by rw [hSw.cell, csA_10, dq]
    clear hSw
    go_simp
    try with_reducible rfl
  try simp only [List.getElem_toArray, List.getElem_cons_succ, List.getElem_cons_zero, Act.put, List.setIfInBounds_toArray, List.set_cons_zero, List.set_cons_succ]
  refine wpAnyH_ready (rs := [5]) (by kernel_rfl) (by simp) ?_
  refine AllReadyH.cons rfl (fun K hK => ?_) AllReadyH.nil
  go_simp
  go_at_call 28
  refine (place_c (c 10) k true v0 v1 k0 k1 _).mono ?_
  rintro e w' ⟨rfl, rfl⟩
  go_wp2_with fail
  refine hK.out _ _ (by assumption) (fun hHeld => ?_)
  clear hK K
  try simp only [List.getElem_toArray, List.getElem_cons_succ, List.getElem_cons_zero, Act.put, List.setIfInBounds_toArray, List.set_cons_zero, List.set_cons_succ]
  refine wpAnyH_ready (rs := [6]) (by kernel_rfl) (by simp) ?_
  refine AllReadyH.cons rfl (fun K hK => ?_) AllReadyH.nil
  rw [if_pos (by rfl)]
  refine wp_store_row 24 (.tmp 12) (.tmp 59) rfl (w.heap.size + 1) (csA d) (by rfl) (by rfl) _ _ kz csInfo rfl (csA_one d) ?_
  have kl := kz.setRow (cs := csA d)
  have gl := (g3.drew1).setRow (b := w.heap.size + 1) (Nat.le_succ_of_le hgs) (csA d)
  have hl := (Blk.otherRow (g := w.heap.size + 1) (new := csA d) hHeld (by omega))
  refine hK.out _ _ hl (fun hHeld => ?_)
  clear hK K hl
  try simp only [List.getElem_toArray, List.getElem_cons_succ, List.getElem_cons_zero, Act.put, List.setIfInBounds_toArray, List.set_cons_zero, List.set_cons_succ]
  refine wpAnyH_take (i := 7) (v := ?_) rfl (by kernel_rfl) (by kernel_rfl) (by kernel_rfl) (fun _ _ _ h => h) (Or.inl ⟨by rfl, ?_⟩) (by assumption) ?_
  rotate_left
  · intro wx hSw
    have hSc : wx.cell? ⟨w.heap.size, 10, none⟩ = some (.int .u64 (c 10)) := by rw [hSw.cell, csA_10, dq]
    clear hSw
    go_simp
    try with_reducible rfl
  try simp only [List.getElem_toArray, List.getElem_cons_succ, List.getElem_cons_zero, Act.put, List.setIfInBounds_toArray, List.set_cons_zero, List.set_cons_succ]
  refine wpAnyH_take (i := 8) (v := ?_) rfl (by kernel_rfl) (by kernel_rfl) (by kernel_rfl) (fun _ _ _ h => h) (Or.inl ⟨by rfl, ?_⟩) (by assumption) ?_
  rotate_left
  · intro wx hSw
    have hSc : wx.cell? ⟨w.heap.size, 10, none⟩ = some (.int .u64 (c 10)) := by rw [hSw.cell, csA_10, dq]
    clear hSw
    go_simp
    try with_reducible rfl
  try simp only [List.getElem_toArray, List.getElem_cons_succ, List.getElem_cons_zero, Act.put, List.setIfInBounds_toArray, List.set_cons_zero, List.set_cons_succ]
  refine wpAnyH_done (by kernel_rfl) ?_ _
  try simp only [List.getElem_toArray, List.getElem_cons_succ, List.getElem_cons_zero, Act.put, List.setIfInBounds_toArray, List.set_cons_zero, List.set_cons_succ]
  go_wp2_with fail
  exact bodyPost_ret (v := .tuple #[csV d, .int .i64 1, .int .u64 (placeV (c 10) k true)]) (results_cs3 (p := 12) (q := 13) (r := 14) Tryd.results11 _ _ (w.heap.size + 1) kl rfl) rfl ⟨by rw [HD.out], gl⟩

set_option maxRecDepth 100000 in
set_option maxHeartbeats 2000000 in
theorem ent_s (c : Nat → Int) (s dl k b : Nat) (p pc cause tval y : Int) (hs : s < 2 ^ 64) (c0 : c 0 = (s : Int)) (hd : dl < 2 ^ 64) (cd : c 1 = (dl : Int)) (hk : IntKind.u64.wrap cause = (k : Int)) (hk1 : k < 2 ^ 64) (hb : b < 2) (hp : IntKind.u64.wrap p % 2 = (b : Int)) (hy : whyV k false = y)
    (v0 : 0 ≤ c 10) (v1 : c 10 < 18446744073709551616) (p1 : decide (p ≤ 1) = true) (pd : (((bitN dl (k % 64) : Nat) : Int) == 1) = true) {W w : World} (hg : Grew W w) :
    Calls Tryd.prog 11 #[csV c, .int .i64 p, .int .u64 pc, .int .i64 cause, .bool false, .int .u64 tval] w fun e w' => e = .returned (.tuple #[csV (upd (upd (upd (upd c 13 (y)) 12 (bits .andNot .u64 pc 1)) 14 (tval)) 0 ((setN (setN (setN s 5 (bitN s 1)) 1 0) 8 b : Nat) : Int)), .int .i64 1, .int .u64 (placeV (c 10) k false)]) ∧ Grew W w' := by
  have hgs := hg.size
  have HS := Lib.hid hs
  have HDL := Lib.hid hd
  have k0 : 0 ≤ (k : Int) := Int.natCast_nonneg _
  have k1 : (k : Int) < 18446744073709551616 := by omega
  have s1 := setN_lt s 5 _ hs (by decide) (bitN_lt s 1)
  have s2 := setN_lt _ 1 0 s1 (by decide) (by decide)
  have S1 := Lib.hid s1
  have S2 := Lib.hid s2
  have HB := Lib.hid hb
  have hm : ((k % 64 : Nat) : Int) = (k : Int) % 64 := by omega
  have HM := Lib.hid hm
  have hml := Lib.hid (show k % 64 < 64 by omega)
  clear hs hd hk1 s1 s2 hb hm
  simp only [whyV, Bool.false_eq_true, if_false] at hy
  subst hy
  go_enter Tryd.func11, Tryd.ntmps11
  go_upto_region 1 with fail
  refine wp_gen2 hg ?_
  intro w1 kb kz g1
  change Blk w1 (w.heap.size + 1) (csA fun _ => 0) 24 at kz
  have y1 : w1.cell? ⟨w.heap.size, 1, none⟩ = some (.int .u64 (c 1)) := by rw [kb.cell, csA_1]
  have y2 : w1.cell? ⟨w.heap.size, 2, none⟩ = some (.int .u64 (c 2)) := by rw [kb.cell, csA_2]
  have ya : w1.cell? ⟨w.heap.size, 13, none⟩ = some (.int .u64 (c 13)) := by rw [kb.cell, csA_13]
  have yb : w1.cell? ⟨w.heap.size, 12, none⟩ = some (.int .u64 (c 12)) := by rw [kb.cell, csA_12]
  have yc : w1.cell? ⟨w.heap.size, 14, none⟩ = some (.int .u64 (c 14)) := by rw [kb.cell, csA_14]
  have fa := kb.free 13
  have fb := kb.free 12
  have fc := kb.free 14
  go_upto_region 9 with (go_at_call 26; refine (bit_l dl HDL.out (k % 64) _ HM.out.symm hml.out _).mono ?_; rintro e w2 ⟨rfl, rfl⟩)
  have k2 : Blk (World.setCell (World.setCell (World.setCell w1 ⟨w.heap.size, 13, none⟩ (.int .u64 ((k : Int)))) ⟨w.heap.size, 12, none⟩ (.int .u64 (bits .andNot .u64 pc 1))) ⟨w.heap.size, 14, none⟩ (.int .u64 (tval))) w.heap.size (csA (upd (upd (upd c 13 ((k : Int))) 12 (bits .andNot .u64 pc 1)) 14 (tval))) 24 := by
    have := ((kb.set (o := 13) (.int .u64 ((k : Int)))).set (o := 12) (.int .u64 (bits .andNot .u64 pc 1))).set (o := 14) (.int .u64 (tval))
    rw [csU_13, csU_12, csU_14] at this
    exact this
  have z2 := ((kz.other (o := 13) (c := w.heap.size) (by omega) (.int .u64 ((k : Int)))).other (o := 12) (c := w.heap.size) (by omega) (.int .u64 (bits .andNot .u64 pc 1))).other (o := 14) (c := w.heap.size) (by omega) (.int .u64 (tval))
  have g2 : Grew W (World.setCell (World.setCell (World.setCell w1 ⟨w.heap.size, 13, none⟩ (.int .u64 ((k : Int)))) ⟨w.heap.size, 12, none⟩ (.int .u64 (bits .andNot .u64 pc 1))) ⟨w.heap.size, 14, none⟩ (.int .u64 (tval))) := (((g1.setCell hgs _).setCell hgs _).setCell hgs _)
  have hp' : (IntKind.u64.wrap p).tmod 2 = (b : Int) := by rw [Int.tmod_eq_emod_of_nonneg (by rw [wrap_u64]; omega)]; exact hp
  clear y1 y2 ya yb yc fa fb fc
  have y0 : ((World.setCell (World.setCell (World.setCell w1 ⟨w.heap.size, 13, none⟩ (.int .u64 ((k : Int)))) ⟨w.heap.size, 12, none⟩ (.int .u64 (bits .andNot .u64 pc 1))) ⟨w.heap.size, 14, none⟩ (.int .u64 (tval)))).cell? ⟨w.heap.size, 0, none⟩ = some (.int .u64 (s : Nat)) := by rw [k2.cell, csA_0]; show some (Value.int .u64 (c 0)) = _; rw [c0]
  have f0 := k2.free 0
  generalize (World.setCell (World.setCell (World.setCell w1 ⟨w.heap.size, 13, none⟩ (.int .u64 ((k : Int)))) ⟨w.heap.size, 12, none⟩ (.int .u64 (bits .andNot .u64 pc 1))) ⟨w.heap.size, 14, none⟩ (.int .u64 (tval))) = w2 at *
  refine region_quiet_tail 12 (by kernel_rfl) (by kernel_rfl) ?_
  simp only [List.take_succ_cons, List.take_zero, List.drop_succ_cons, List.drop_zero]
  repeat (first
    | go_big_quiet_step ((first | (go_at_call 26; with_reducible exact quiet_eq (bit_l s HS.out 1 1 rfl (by decide) _)) | (go_at_call 27; with_reducible exact quiet_eq (set_l s HS.out 5 5 rfl (by decide) (bitN s 1) ((bitN s 1 : Nat) : Int) rfl (bitN_lt _ _) _)) | (go_at_call 27; with_reducible exact quiet_eq (set_l _ S1.out 1 1 rfl (by decide) 0 0 rfl (by decide) _)) | (go_at_call 27; with_reducible exact quiet_eq (set_l _ S2.out 8 8 rfl (by decide) b (b : Int) rfl HB.out _))))
    | quiet_step ((first | (go_at_call 26; with_reducible exact quiet_eq (bit_l s HS.out 1 1 rfl (by decide) _)) | (go_at_call 27; with_reducible exact quiet_eq (set_l s HS.out 5 5 rfl (by decide) (bitN s 1) ((bitN s 1 : Nat) : Int) rfl (bitN_lt _ _) _)) | (go_at_call 27; with_reducible exact quiet_eq (set_l _ S1.out 1 1 rfl (by decide) 0 0 rfl (by decide) _)) | (go_at_call 27; with_reducible exact quiet_eq (set_l _ S2.out 8 8 rfl (by decide) b (b : Int) rfl HB.out _)))))
  refine wpQuiet_nil ?_
  intro nq
  go_upto_region 10 with fail
  have k3 : Blk (World.setCell (w2.drewN nq) ⟨w.heap.size, 0, none⟩ (.int .u64 (((setN (setN (setN s 5 (bitN s 1)) 1 0) 8 b : Nat) : Int)))) w.heap.size (csA (upd (upd (upd (upd c 13 ((k : Int))) 12 (bits .andNot .u64 pc 1)) 14 (tval)) 0 ((setN (setN (setN s 5 (bitN s 1)) 1 0) 8 b : Nat) : Int))) 24 := by
    have := (k2.drewN nq).set (o := 0) (.int .u64 (((setN (setN (setN s 5 (bitN s 1)) 1 0) 8 b : Nat) : Int)))
    rw [csU_0] at this
    exact this
  have z3 := (z2.drewN nq).other (o := 0) (c := w.heap.size) (by omega) (.int .u64 (((setN (setN (setN s 5 (bitN s 1)) 1 0) 8 b : Nat) : Int)))
  have g3 : Grew W (World.setCell (w2.drewN nq) ⟨w.heap.size, 0, none⟩ (.int .u64 (((setN (setN (setN s 5 (bitN s 1)) 1 0) 8 b : Nat) : Int)))) := (g2.drewN nq).setCell hgs _
  clear y0 f0
  generalize World.setCell (w2.drewN nq) ⟨w.heap.size, 0, none⟩ (.int .u64 (((setN (setN (setN s 5 (bitN s 1)) 1 0) 8 b : Nat) : Int))) = w3 at *
  obtain ⟨d, hd⟩ : ∃ d, d = upd (upd (upd (upd c 13 ((k : Int))) 12 (bits .andNot .u64 pc 1)) 14 (tval)) 0 ((setN (setN (setN s 5 (bitN s 1)) 1 0) 8 b : Nat) : Int) := ⟨_, rfl⟩
  have dq : d 10 = c 10 := by rw [hd]; rfl
  rw [← hd] at k3
  have HD := Lib.hid hd
  clear hd
  have kz := z3.drew
  refine wp_region_held_drew (S := fun w' => Blk w' w.heap.size (csA d) 24) (by kernel_rfl) (k3.drew) (fun hHeld => ?_)
  refine wpAnyH_take (i := 0) (v := csV d) rfl (by kernel_rfl) (by kernel_rfl) (by kernel_rfl) (fun _ _ _ h => h) (yl_cs rfl (by rfl) (by rfl) fun _ h => h) (by assumption) ?_
  try simp only [List.getElem_toArray, List.getElem_cons_succ, List.getElem_cons_zero, Act.put, List.setIfInBounds_toArray, List.set_cons_zero, List.set_cons_succ]
  refine wpAnyH_take (i := 1) (v := ?_) rfl (by kernel_rfl) (by kernel_rfl) (by kernel_rfl) (fun _ _ _ h => h) (Or.inl ⟨by rfl, ?_⟩) (by assumption) ?_
  rotate_left
  · intro wx hSw
    have hSc : wx.cell? ⟨w.heap.size, 10, none⟩ = some (.int .u64 (c 10)) := by rw [hSw.cell, csA_10, dq]
    clear hSw
    go_simp
    try with_reducible rfl
  try simp only [List.getElem_toArray, List.getElem_cons_succ, List.getElem_cons_zero, Act.put, List.setIfInBounds_toArray, List.set_cons_zero, List.set_cons_succ]
  refine wpAnyH_take (i := 2) (v := ?_) rfl (by kernel_rfl) (by kernel_rfl) (by kernel_rfl) (fun _ _ _ h => h) (Or.inl ⟨by rfl, ?_⟩) (by assumption) ?_
  rotate_left
  · intro wx hSw
    have hSc : wx.cell? ⟨w.heap.size, 10, none⟩ = some (.int .u64 (c 10)) := by rw [hSw.cell, csA_10, dq]
    clear hSw
    go_simp
    try with_reducible rfl
  try simp only [List.getElem_toArray, List.getElem_cons_succ, List.getElem_cons_zero, Act.put, List.setIfInBounds_toArray, List.set_cons_zero, List.set_cons_succ]
  refine wpAnyH_take (i := 3) (v := ?_) rfl (by kernel_rfl) (by kernel_rfl) (by kernel_rfl) (fun _ _ _ h => h) (Or.inl ⟨by rfl, ?_⟩) (by assumption) ?_
  rotate_left
  · intro wx hSw
    have hSc : wx.cell? ⟨w.heap.size, 10, none⟩ = some (.int .u64 (c 10)) := by rw [hSw.cell, csA_10, dq]
    clear hSw
    go_simp
    try with_reducible rfl
  try simp only [List.getElem_toArray, List.getElem_cons_succ, List.getElem_cons_zero, Act.put, List.setIfInBounds_toArray, List.set_cons_zero, List.set_cons_succ]
  refine wpAnyH_take (i := 4) (v := ?_) rfl (by kernel_rfl) (by kernel_rfl) (by kernel_rfl) (fun _ _ _ h => h) (Or.inl ⟨by rfl, ?_⟩) (by assumption) ?_
  rotate_left
  · intro wx hSw
    have hSc : wx.cell? ⟨w.heap.size, 10, none⟩ = some (.int .u64 (c 10)) := by rw [hSw.cell, csA_10, dq]
    clear hSw
    go_simp
    try with_reducible rfl
  try simp only [List.getElem_toArray, List.getElem_cons_succ, List.getElem_cons_zero, Act.put, List.setIfInBounds_toArray, List.set_cons_zero, List.set_cons_succ]
  refine wpAnyH_ready (rs := [5]) (by kernel_rfl) (by simp) ?_
  refine AllReadyH.cons rfl (fun K hK => ?_) AllReadyH.nil
  go_simp
  go_at_call 28
  refine (place_c (c 10) k false v0 v1 k0 k1 _).mono ?_
  rintro e w' ⟨rfl, rfl⟩
  go_wp2_with fail
  refine hK.out _ _ (by assumption) (fun hHeld => ?_)
  clear hK K
  try simp only [List.getElem_toArray, List.getElem_cons_succ, List.getElem_cons_zero, Act.put, List.setIfInBounds_toArray, List.set_cons_zero, List.set_cons_succ]
  refine wpAnyH_ready (rs := [6]) (by kernel_rfl) (by simp) ?_
  refine AllReadyH.cons rfl (fun K hK => ?_) AllReadyH.nil
  rw [if_pos (by rfl)]
  refine wp_store_row 24 (.tmp 12) (.tmp 59) rfl (w.heap.size + 1) (csA d) (by rfl) (by rfl) _ _ kz csInfo rfl (csA_one d) ?_
  have kl := kz.setRow (cs := csA d)
  have gl := (g3.drew1).setRow (b := w.heap.size + 1) (Nat.le_succ_of_le hgs) (csA d)
  have hl := (Blk.otherRow (g := w.heap.size + 1) (new := csA d) hHeld (by omega))
  refine hK.out _ _ hl (fun hHeld => ?_)
  clear hK K hl
  try simp only [List.getElem_toArray, List.getElem_cons_succ, List.getElem_cons_zero, Act.put, List.setIfInBounds_toArray, List.set_cons_zero, List.set_cons_succ]
  refine wpAnyH_take (i := 7) (v := ?_) rfl (by kernel_rfl) (by kernel_rfl) (by kernel_rfl) (fun _ _ _ h => h) (Or.inl ⟨by rfl, ?_⟩) (by assumption) ?_
  rotate_left
  · intro wx hSw
    have hSc : wx.cell? ⟨w.heap.size, 10, none⟩ = some (.int .u64 (c 10)) := by rw [hSw.cell, csA_10, dq]
    clear hSw
    go_simp
    try with_reducible rfl
  try simp only [List.getElem_toArray, List.getElem_cons_succ, List.getElem_cons_zero, Act.put, List.setIfInBounds_toArray, List.set_cons_zero, List.set_cons_succ]
  refine wpAnyH_take (i := 8) (v := ?_) rfl (by kernel_rfl) (by kernel_rfl) (by kernel_rfl) (fun _ _ _ h => h) (Or.inl ⟨by rfl, ?_⟩) (by assumption) ?_
  rotate_left
  · intro wx hSw
    have hSc : wx.cell? ⟨w.heap.size, 10, none⟩ = some (.int .u64 (c 10)) := by rw [hSw.cell, csA_10, dq]
    clear hSw
    go_simp
    try with_reducible rfl
  try simp only [List.getElem_toArray, List.getElem_cons_succ, List.getElem_cons_zero, Act.put, List.setIfInBounds_toArray, List.set_cons_zero, List.set_cons_succ]
  refine wpAnyH_done (by kernel_rfl) ?_ _
  try simp only [List.getElem_toArray, List.getElem_cons_succ, List.getElem_cons_zero, Act.put, List.setIfInBounds_toArray, List.set_cons_zero, List.set_cons_succ]
  go_wp2_with fail
  exact bodyPost_ret (v := .tuple #[csV d, .int .i64 1, .int .u64 (placeV (c 10) k false)]) (results_cs3 (p := 12) (q := 13) (r := 14) Tryd.results11 _ _ (w.heap.size + 1) kl rfl) rfl ⟨by rw [HD.out], gl⟩

set_option maxRecDepth 100000 in
set_option maxHeartbeats 2000000 in
theorem ent_m_irq_low_two (c : Nat → Int) (s dl k b : Nat) (p pc cause tval y : Int) (hs : s < 2 ^ 64) (c0 : c 0 = (s : Int)) (hd : dl < 2 ^ 64) (cd : c 2 = (dl : Int)) (hk : IntKind.u64.wrap cause = (k : Int)) (hk1 : k < 2 ^ 64) (hb : b < 4) (hp : IntKind.u64.wrap p % 4 = (b : Int)) (hy : whyV k true = y)
    (v0 : 0 ≤ c 5) (v1 : c 5 < 18446744073709551616) (p1 : decide (p ≤ 1) = true) (pd : (((bitN dl (k % 64) : Nat) : Int) == 1) = false) (m : Nat) (hm2 : m = b * 2048) (q2 : ((b : Int) == 2) = true) {W w : World} (hg : Grew W w) :
    Calls Tryd.prog 11 #[csV c, .int .i64 p, .int .u64 pc, .int .i64 cause, .bool true, .int .u64 tval] w fun e w' => e = .returned (.tuple #[csV (upd (upd (upd (upd c 8 (y)) 7 (bits .andNot .u64 pc 1)) 9 (tval)) 0 ((ndn (setN (setN s 7 (bitN s 3)) 3 0) 6144 : Nat) : Int)), .int .i64 3, .int .u64 (placeV (c 5) k true)]) ∧ Grew W w' := by
  have hgs := hg.size
  have HS := Lib.hid hs
  have HDL := Lib.hid hd
  have k0 : 0 ≤ (k : Int) := Int.natCast_nonneg _
  have k1 : (k : Int) < 18446744073709551616 := by omega
  have s1 := setN_lt s 7 _ hs (by decide) (bitN_lt s 3)
  have s2 := setN_lt _ 3 0 s1 (by decide) (by decide)
  have S1 := Lib.hid s1
  have S2 := Lib.hid s2
  have HB := Lib.hid hb
  have F1 := Lib.hid (l_not _ s2 6144 (by decide) 6144 rfl)
  have F2 := Lib.hid (l_or _ (ndn_lt _ 6144 s2) (0) (by omega) (0) rfl)
  have F3 := Lib.hid (show IntKind.u64.wrap ((b : Int) * 2048) = (m : Int) by rw [hm2, IntWalk.u64_in _ (by omega)]; simp)
  clear hm2
  have hm : ((k % 64 : Nat) : Int) = (k : Int) % 64 := by omega
  have HM := Lib.hid hm
  have hml := Lib.hid (show k % 64 < 64 by omega)
  clear hs hd hk1 s1 s2 hb hm
  simp only [whyV, if_true] at hy
  obtain ⟨r, hr⟩ : ∃ r, IntKind.u64.wrap p = r := ⟨_, rfl⟩
  have r0 : 0 ≤ r := by rw [← hr, wrap_u64]; omega
  have r1 : r < 18446744073709551616 := by rw [← hr, wrap_u64]; omega
  rw [hr] at hp
  go_enter Tryd.func11, Tryd.ntmps11
  go_upto_region 1 with fail
  refine wp_gen2 hg ?_
  intro w1 kb kz g1
  change Blk w1 (w.heap.size + 1) (csA fun _ => 0) 24 at kz
  have y1 : w1.cell? ⟨w.heap.size, 1, none⟩ = some (.int .u64 (c 1)) := by rw [kb.cell, csA_1]
  have y2 : w1.cell? ⟨w.heap.size, 2, none⟩ = some (.int .u64 (c 2)) := by rw [kb.cell, csA_2]
  have ya : w1.cell? ⟨w.heap.size, 8, none⟩ = some (.int .u64 (c 8)) := by rw [kb.cell, csA_8]
  have yb : w1.cell? ⟨w.heap.size, 7, none⟩ = some (.int .u64 (c 7)) := by rw [kb.cell, csA_7]
  have yc : w1.cell? ⟨w.heap.size, 9, none⟩ = some (.int .u64 (c 9)) := by rw [kb.cell, csA_9]
  have fa := kb.free 8
  have fb := kb.free 7
  have fc := kb.free 9
  go_upto_region 15 with (go_at_call 26; refine (bit_l dl HDL.out (k % 64) _ HM.out.symm hml.out _).mono ?_; rintro e w2 ⟨rfl, rfl⟩)
  have k2 : Blk (World.setCell (World.setCell (World.setCell w1 ⟨w.heap.size, 8, none⟩ (.int .u64 (y))) ⟨w.heap.size, 7, none⟩ (.int .u64 (bits .andNot .u64 pc 1))) ⟨w.heap.size, 9, none⟩ (.int .u64 (tval))) w.heap.size (csA (upd (upd (upd c 8 (y)) 7 (bits .andNot .u64 pc 1)) 9 (tval))) 24 := by
    have := ((kb.set (o := 8) (.int .u64 (y))).set (o := 7) (.int .u64 (bits .andNot .u64 pc 1))).set (o := 9) (.int .u64 (tval))
    rw [csU_8, csU_7, csU_9] at this
    exact this
  have z2 := ((kz.other (o := 8) (c := w.heap.size) (by omega) (.int .u64 (y))).other (o := 7) (c := w.heap.size) (by omega) (.int .u64 (bits .andNot .u64 pc 1))).other (o := 9) (c := w.heap.size) (by omega) (.int .u64 (tval))
  have g2 : Grew W (World.setCell (World.setCell (World.setCell w1 ⟨w.heap.size, 8, none⟩ (.int .u64 (y))) ⟨w.heap.size, 7, none⟩ (.int .u64 (bits .andNot .u64 pc 1))) ⟨w.heap.size, 9, none⟩ (.int .u64 (tval))) := (((g1.setCell hgs _).setCell hgs _).setCell hgs _)
  clear y1 y2 ya yb yc fa fb fc
  have y0 : ((World.setCell (World.setCell (World.setCell w1 ⟨w.heap.size, 8, none⟩ (.int .u64 (y))) ⟨w.heap.size, 7, none⟩ (.int .u64 (bits .andNot .u64 pc 1))) ⟨w.heap.size, 9, none⟩ (.int .u64 (tval)))).cell? ⟨w.heap.size, 0, none⟩ = some (.int .u64 (s : Nat)) := by rw [k2.cell, csA_0]; show some (Value.int .u64 (c 0)) = _; rw [c0]
  have f0 := k2.free 0
  generalize (World.setCell (World.setCell (World.setCell w1 ⟨w.heap.size, 8, none⟩ (.int .u64 (y))) ⟨w.heap.size, 7, none⟩ (.int .u64 (bits .andNot .u64 pc 1))) ⟨w.heap.size, 9, none⟩ (.int .u64 (tval))) = w2 at *
  have E1 := F1.out
  have E2 := F2.out
  have E3 := F3.out
  refine region_quiet_tail 12 (by kernel_rfl) (by kernel_rfl) ?_
  simp only [List.take_succ_cons, List.take_zero, List.drop_succ_cons, List.drop_zero]
  repeat (first
    | go_big_quiet_step ((first | (go_at_call 26; with_reducible exact quiet_eq (bit_l s HS.out 3 3 rfl (by decide) _)) | (go_at_call 27; with_reducible exact quiet_eq (set_l s HS.out 7 7 rfl (by decide) (bitN s 3) ((bitN s 3 : Nat) : Int) rfl (bitN_lt _ _) _)) | (go_at_call 27; with_reducible exact quiet_eq (set_l _ S1.out 3 3 rfl (by decide) 0 0 rfl (by decide) _))))
    | quiet_step ((first | (go_at_call 26; with_reducible exact quiet_eq (bit_l s HS.out 3 3 rfl (by decide) _)) | (go_at_call 27; with_reducible exact quiet_eq (set_l s HS.out 7 7 rfl (by decide) (bitN s 3) ((bitN s 3 : Nat) : Int) rfl (bitN_lt _ _) _)) | (go_at_call 27; with_reducible exact quiet_eq (set_l _ S1.out 3 3 rfl (by decide) 0 0 rfl (by decide) _)))))
  refine wpQuiet_nil ?_
  intro nq
  go_upto_region 16 with fail
  have k3 : Blk (World.setCell (w2.drewN nq) ⟨w.heap.size, 0, none⟩ (.int .u64 (((ndn (setN (setN s 7 (bitN s 3)) 3 0) 6144 : Nat) : Int)))) w.heap.size (csA (upd (upd (upd (upd c 8 (y)) 7 (bits .andNot .u64 pc 1)) 9 (tval)) 0 ((ndn (setN (setN s 7 (bitN s 3)) 3 0) 6144 : Nat) : Int))) 24 := by
    have := (k2.drewN nq).set (o := 0) (.int .u64 (((ndn (setN (setN s 7 (bitN s 3)) 3 0) 6144 : Nat) : Int)))
    rw [csU_0] at this
    exact this
  have z3 := (z2.drewN nq).other (o := 0) (c := w.heap.size) (by omega) (.int .u64 (((ndn (setN (setN s 7 (bitN s 3)) 3 0) 6144 : Nat) : Int)))
  have g3 : Grew W (World.setCell (w2.drewN nq) ⟨w.heap.size, 0, none⟩ (.int .u64 (((ndn (setN (setN s 7 (bitN s 3)) 3 0) 6144 : Nat) : Int)))) := (g2.drewN nq).setCell hgs _
  clear y0 f0
  generalize World.setCell (w2.drewN nq) ⟨w.heap.size, 0, none⟩ (.int .u64 (((ndn (setN (setN s 7 (bitN s 3)) 3 0) 6144 : Nat) : Int))) = w3 at *
  obtain ⟨d, hd⟩ : ∃ d, d = upd (upd (upd (upd c 8 (y)) 7 (bits .andNot .u64 pc 1)) 9 (tval)) 0 ((ndn (setN (setN s 7 (bitN s 3)) 3 0) 6144 : Nat) : Int) := ⟨_, rfl⟩
  have dq : d 5 = c 5 := by rw [hd]; rfl
  rw [← hd] at k3
  have HD := Lib.hid hd
  clear hd
  have kz := z3.drew
  refine wp_region_held_drew (S := fun w' => Blk w' w.heap.size (csA d) 24) (by kernel_rfl) (k3.drew) (fun hHeld => ?_)
  refine wpAnyH_take (i := 0) (v := csV d) rfl (by kernel_rfl) (by kernel_rfl) (by kernel_rfl) (fun _ _ _ h => h) (yl_cs rfl (by rfl) (by rfl) fun _ h => h) (by assumption) ?_
  try simp only [List.getElem_toArray, List.getElem_cons_succ, List.getElem_cons_zero, Act.put, List.setIfInBounds_toArray, List.set_cons_zero, List.set_cons_succ]
  refine wpAnyH_take (i := 1) (v := ?_) rfl (by kernel_rfl) (by kernel_rfl) (by kernel_rfl) (fun _ _ _ h => h) (Or.inl ⟨by rfl, ?_⟩) (by assumption) ?_
  rotate_left
  · intro wx hSw
    have hSc : wx.cell? ⟨w.heap.size, 5, none⟩ = some (.int .u64 (c 5)) := by rw [hSw.cell, csA_5, dq]
    clear hSw
    go_simp
    try with_reducible rfl
  try simp only [List.getElem_toArray, List.getElem_cons_succ, List.getElem_cons_zero, Act.put, List.setIfInBounds_toArray, List.set_cons_zero, List.set_cons_succ]
  refine wpAnyH_take (i := 2) (v := ?_) rfl (by kernel_rfl) (by kernel_rfl) (by kernel_rfl) (fun _ _ _ h => h) (Or.inl ⟨by rfl, ?_⟩) (by assumption) ?_
  rotate_left
  · intro wx hSw
    have hSc : wx.cell? ⟨w.heap.size, 5, none⟩ = some (.int .u64 (c 5)) := by rw [hSw.cell, csA_5, dq]
    clear hSw
    go_simp
    try with_reducible rfl
  try simp only [List.getElem_toArray, List.getElem_cons_succ, List.getElem_cons_zero, Act.put, List.setIfInBounds_toArray, List.set_cons_zero, List.set_cons_succ]
  refine wpAnyH_take (i := 3) (v := ?_) rfl (by kernel_rfl) (by kernel_rfl) (by kernel_rfl) (fun _ _ _ h => h) (Or.inl ⟨by rfl, ?_⟩) (by assumption) ?_
  rotate_left
  · intro wx hSw
    have hSc : wx.cell? ⟨w.heap.size, 5, none⟩ = some (.int .u64 (c 5)) := by rw [hSw.cell, csA_5, dq]
    clear hSw
    go_simp
    try with_reducible rfl
  try simp only [List.getElem_toArray, List.getElem_cons_succ, List.getElem_cons_zero, Act.put, List.setIfInBounds_toArray, List.set_cons_zero, List.set_cons_succ]
  refine wpAnyH_take (i := 4) (v := ?_) rfl (by kernel_rfl) (by kernel_rfl) (by kernel_rfl) (fun _ _ _ h => h) (Or.inl ⟨by rfl, ?_⟩) (by assumption) ?_
  rotate_left
  · intro wx hSw
    have hSc : wx.cell? ⟨w.heap.size, 5, none⟩ = some (.int .u64 (c 5)) := by rw [hSw.cell, csA_5, dq]
    clear hSw
    go_simp
    try with_reducible rfl
  try simp only [List.getElem_toArray, List.getElem_cons_succ, List.getElem_cons_zero, Act.put, List.setIfInBounds_toArray, List.set_cons_zero, List.set_cons_succ]
  refine wpAnyH_ready (rs := [5]) (by kernel_rfl) (by simp) ?_
  refine AllReadyH.cons rfl (fun K hK => ?_) AllReadyH.nil
  go_simp
  go_at_call 28
  refine (place_c (c 5) k true v0 v1 k0 k1 _).mono ?_
  rintro e w' ⟨rfl, rfl⟩
  go_wp2_with fail
  refine hK.out _ _ (by assumption) (fun hHeld => ?_)
  clear hK K
  try simp only [List.getElem_toArray, List.getElem_cons_succ, List.getElem_cons_zero, Act.put, List.setIfInBounds_toArray, List.set_cons_zero, List.set_cons_succ]
  refine wpAnyH_ready (rs := [6]) (by kernel_rfl) (by simp) ?_
  refine AllReadyH.cons rfl (fun K hK => ?_) AllReadyH.nil
  rw [if_pos (by rfl)]
  refine wp_store_row 24 (.tmp 12) (.tmp 89) rfl (w.heap.size + 1) (csA d) (by rfl) (by rfl) _ _ kz csInfo rfl (csA_one d) ?_
  have kl := kz.setRow (cs := csA d)
  have gl := (g3.drew1).setRow (b := w.heap.size + 1) (Nat.le_succ_of_le hgs) (csA d)
  have hl := (Blk.otherRow (g := w.heap.size + 1) (new := csA d) hHeld (by omega))
  refine hK.out _ _ hl (fun hHeld => ?_)
  clear hK K hl
  try simp only [List.getElem_toArray, List.getElem_cons_succ, List.getElem_cons_zero, Act.put, List.setIfInBounds_toArray, List.set_cons_zero, List.set_cons_succ]
  refine wpAnyH_take (i := 7) (v := ?_) rfl (by kernel_rfl) (by kernel_rfl) (by kernel_rfl) (fun _ _ _ h => h) (Or.inl ⟨by rfl, ?_⟩) (by assumption) ?_
  rotate_left
  · intro wx hSw
    have hSc : wx.cell? ⟨w.heap.size, 5, none⟩ = some (.int .u64 (c 5)) := by rw [hSw.cell, csA_5, dq]
    clear hSw
    go_simp
    try with_reducible rfl
  try simp only [List.getElem_toArray, List.getElem_cons_succ, List.getElem_cons_zero, Act.put, List.setIfInBounds_toArray, List.set_cons_zero, List.set_cons_succ]
  refine wpAnyH_take (i := 8) (v := ?_) rfl (by kernel_rfl) (by kernel_rfl) (by kernel_rfl) (fun _ _ _ h => h) (Or.inl ⟨by rfl, ?_⟩) (by assumption) ?_
  rotate_left
  · intro wx hSw
    have hSc : wx.cell? ⟨w.heap.size, 5, none⟩ = some (.int .u64 (c 5)) := by rw [hSw.cell, csA_5, dq]
    clear hSw
    go_simp
    try with_reducible rfl
  try simp only [List.getElem_toArray, List.getElem_cons_succ, List.getElem_cons_zero, Act.put, List.setIfInBounds_toArray, List.set_cons_zero, List.set_cons_succ]
  refine wpAnyH_done (by kernel_rfl) ?_ _
  try simp only [List.getElem_toArray, List.getElem_cons_succ, List.getElem_cons_zero, Act.put, List.setIfInBounds_toArray, List.set_cons_zero, List.set_cons_succ]
  go_wp2_with fail
  exact bodyPost_ret (v := .tuple #[csV d, .int .i64 3, .int .u64 (placeV (c 5) k true)]) (results_cs3 (p := 12) (q := 13) (r := 14) Tryd.results11 _ _ (w.heap.size + 1) kl rfl) rfl ⟨by rw [HD.out], gl⟩

set_option maxRecDepth 100000 in
set_option maxHeartbeats 2000000 in
theorem ent_m_irq_low (c : Nat → Int) (s dl k b : Nat) (p pc cause tval y : Int) (hs : s < 2 ^ 64) (c0 : c 0 = (s : Int)) (hd : dl < 2 ^ 64) (cd : c 2 = (dl : Int)) (hk : IntKind.u64.wrap cause = (k : Int)) (hk1 : k < 2 ^ 64) (hb : b < 4) (hp : IntKind.u64.wrap p % 4 = (b : Int)) (hy : whyV k true = y)
    (v0 : 0 ≤ c 5) (v1 : c 5 < 18446744073709551616) (p1 : decide (p ≤ 1) = true) (pd : (((bitN dl (k % 64) : Nat) : Int) == 1) = false) (m : Nat) (hm2 : m = b * 2048) (q2 : ((b : Int) == 2) = false) {W w : World} (hg : Grew W w) :
    Calls Tryd.prog 11 #[csV c, .int .i64 p, .int .u64 pc, .int .i64 cause, .bool true, .int .u64 tval] w fun e w' => e = .returned (.tuple #[csV (upd (upd (upd (upd c 8 (y)) 7 (bits .andNot .u64 pc 1)) 9 (tval)) 0 ((ndn (setN (setN s 7 (bitN s 3)) 3 0) 6144 ||| m : Nat) : Int)), .int .i64 3, .int .u64 (placeV (c 5) k true)]) ∧ Grew W w' := by
  have hgs := hg.size
  have HS := Lib.hid hs
  have HDL := Lib.hid hd
  have k0 : 0 ≤ (k : Int) := Int.natCast_nonneg _
  have k1 : (k : Int) < 18446744073709551616 := by omega
  have s1 := setN_lt s 7 _ hs (by decide) (bitN_lt s 3)
  have s2 := setN_lt _ 3 0 s1 (by decide) (by decide)
  have S1 := Lib.hid s1
  have S2 := Lib.hid s2
  have HB := Lib.hid hb
  have F1 := Lib.hid (l_not _ s2 6144 (by decide) 6144 rfl)
  have F2 := Lib.hid (l_or _ (ndn_lt _ 6144 s2) (m) (by omega) ((m : Int)) rfl)
  have F3 := Lib.hid (show IntKind.u64.wrap ((b : Int) * 2048) = (m : Int) by rw [hm2, IntWalk.u64_in _ (by omega)]; simp)
  clear hm2
  have hm : ((k % 64 : Nat) : Int) = (k : Int) % 64 := by omega
  have HM := Lib.hid hm
  have hml := Lib.hid (show k % 64 < 64 by omega)
  clear hs hd hk1 s1 s2 hb hm
  simp only [whyV, if_true] at hy
  obtain ⟨r, hr⟩ : ∃ r, IntKind.u64.wrap p = r := ⟨_, rfl⟩
  have r0 : 0 ≤ r := by rw [← hr, wrap_u64]; omega
  have r1 : r < 18446744073709551616 := by rw [← hr, wrap_u64]; omega
  rw [hr] at hp
  go_enter Tryd.func11, Tryd.ntmps11
  go_upto_region 1 with fail
  refine wp_gen2 hg ?_
  intro w1 kb kz g1
  change Blk w1 (w.heap.size + 1) (csA fun _ => 0) 24 at kz
  have y1 : w1.cell? ⟨w.heap.size, 1, none⟩ = some (.int .u64 (c 1)) := by rw [kb.cell, csA_1]
  have y2 : w1.cell? ⟨w.heap.size, 2, none⟩ = some (.int .u64 (c 2)) := by rw [kb.cell, csA_2]
  have ya : w1.cell? ⟨w.heap.size, 8, none⟩ = some (.int .u64 (c 8)) := by rw [kb.cell, csA_8]
  have yb : w1.cell? ⟨w.heap.size, 7, none⟩ = some (.int .u64 (c 7)) := by rw [kb.cell, csA_7]
  have yc : w1.cell? ⟨w.heap.size, 9, none⟩ = some (.int .u64 (c 9)) := by rw [kb.cell, csA_9]
  have fa := kb.free 8
  have fb := kb.free 7
  have fc := kb.free 9
  go_upto_region 15 with (go_at_call 26; refine (bit_l dl HDL.out (k % 64) _ HM.out.symm hml.out _).mono ?_; rintro e w2 ⟨rfl, rfl⟩)
  have k2 : Blk (World.setCell (World.setCell (World.setCell w1 ⟨w.heap.size, 8, none⟩ (.int .u64 (y))) ⟨w.heap.size, 7, none⟩ (.int .u64 (bits .andNot .u64 pc 1))) ⟨w.heap.size, 9, none⟩ (.int .u64 (tval))) w.heap.size (csA (upd (upd (upd c 8 (y)) 7 (bits .andNot .u64 pc 1)) 9 (tval))) 24 := by
    have := ((kb.set (o := 8) (.int .u64 (y))).set (o := 7) (.int .u64 (bits .andNot .u64 pc 1))).set (o := 9) (.int .u64 (tval))
    rw [csU_8, csU_7, csU_9] at this
    exact this
  have z2 := ((kz.other (o := 8) (c := w.heap.size) (by omega) (.int .u64 (y))).other (o := 7) (c := w.heap.size) (by omega) (.int .u64 (bits .andNot .u64 pc 1))).other (o := 9) (c := w.heap.size) (by omega) (.int .u64 (tval))
  have g2 : Grew W (World.setCell (World.setCell (World.setCell w1 ⟨w.heap.size, 8, none⟩ (.int .u64 (y))) ⟨w.heap.size, 7, none⟩ (.int .u64 (bits .andNot .u64 pc 1))) ⟨w.heap.size, 9, none⟩ (.int .u64 (tval))) := (((g1.setCell hgs _).setCell hgs _).setCell hgs _)
  clear y1 y2 ya yb yc fa fb fc
  have y0 : ((World.setCell (World.setCell (World.setCell w1 ⟨w.heap.size, 8, none⟩ (.int .u64 (y))) ⟨w.heap.size, 7, none⟩ (.int .u64 (bits .andNot .u64 pc 1))) ⟨w.heap.size, 9, none⟩ (.int .u64 (tval)))).cell? ⟨w.heap.size, 0, none⟩ = some (.int .u64 (s : Nat)) := by rw [k2.cell, csA_0]; show some (Value.int .u64 (c 0)) = _; rw [c0]
  have f0 := k2.free 0
  generalize (World.setCell (World.setCell (World.setCell w1 ⟨w.heap.size, 8, none⟩ (.int .u64 (y))) ⟨w.heap.size, 7, none⟩ (.int .u64 (bits .andNot .u64 pc 1))) ⟨w.heap.size, 9, none⟩ (.int .u64 (tval))) = w2 at *
  have E1 := F1.out
  have E2 := F2.out
  have E3 := F3.out
  refine region_quiet_tail 12 (by kernel_rfl) (by kernel_rfl) ?_
  simp only [List.take_succ_cons, List.take_zero, List.drop_succ_cons, List.drop_zero]
  repeat (first
    | go_big_quiet_step ((first | (go_at_call 26; with_reducible exact quiet_eq (bit_l s HS.out 3 3 rfl (by decide) _)) | (go_at_call 27; with_reducible exact quiet_eq (set_l s HS.out 7 7 rfl (by decide) (bitN s 3) ((bitN s 3 : Nat) : Int) rfl (bitN_lt _ _) _)) | (go_at_call 27; with_reducible exact quiet_eq (set_l _ S1.out 3 3 rfl (by decide) 0 0 rfl (by decide) _))))
    | quiet_step ((first | (go_at_call 26; with_reducible exact quiet_eq (bit_l s HS.out 3 3 rfl (by decide) _)) | (go_at_call 27; with_reducible exact quiet_eq (set_l s HS.out 7 7 rfl (by decide) (bitN s 3) ((bitN s 3 : Nat) : Int) rfl (bitN_lt _ _) _)) | (go_at_call 27; with_reducible exact quiet_eq (set_l _ S1.out 3 3 rfl (by decide) 0 0 rfl (by decide) _)))))
  refine wpQuiet_nil ?_
  intro nq
  go_upto_region 16 with fail
  have k3 : Blk (World.setCell (w2.drewN nq) ⟨w.heap.size, 0, none⟩ (.int .u64 (((ndn (setN (setN s 7 (bitN s 3)) 3 0) 6144 ||| m : Nat) : Int)))) w.heap.size (csA (upd (upd (upd (upd c 8 (y)) 7 (bits .andNot .u64 pc 1)) 9 (tval)) 0 ((ndn (setN (setN s 7 (bitN s 3)) 3 0) 6144 ||| m : Nat) : Int))) 24 := by
    have := (k2.drewN nq).set (o := 0) (.int .u64 (((ndn (setN (setN s 7 (bitN s 3)) 3 0) 6144 ||| m : Nat) : Int)))
    rw [csU_0] at this
    exact this
  have z3 := (z2.drewN nq).other (o := 0) (c := w.heap.size) (by omega) (.int .u64 (((ndn (setN (setN s 7 (bitN s 3)) 3 0) 6144 ||| m : Nat) : Int)))
  have g3 : Grew W (World.setCell (w2.drewN nq) ⟨w.heap.size, 0, none⟩ (.int .u64 (((ndn (setN (setN s 7 (bitN s 3)) 3 0) 6144 ||| m : Nat) : Int)))) := (g2.drewN nq).setCell hgs _
  clear y0 f0
  generalize World.setCell (w2.drewN nq) ⟨w.heap.size, 0, none⟩ (.int .u64 (((ndn (setN (setN s 7 (bitN s 3)) 3 0) 6144 ||| m : Nat) : Int))) = w3 at *
  obtain ⟨d, hd⟩ : ∃ d, d = upd (upd (upd (upd c 8 (y)) 7 (bits .andNot .u64 pc 1)) 9 (tval)) 0 ((ndn (setN (setN s 7 (bitN s 3)) 3 0) 6144 ||| m : Nat) : Int) := ⟨_, rfl⟩
  have dq : d 5 = c 5 := by rw [hd]; rfl
  rw [← hd] at k3
  have HD := Lib.hid hd
  clear hd
  have kz := z3.drew
  refine wp_region_held_drew (S := fun w' => Blk w' w.heap.size (csA d) 24) (by kernel_rfl) (k3.drew) (fun hHeld => ?_)
  refine wpAnyH_take (i := 0) (v := csV d) rfl (by kernel_rfl) (by kernel_rfl) (by kernel_rfl) (fun _ _ _ h => h) (yl_cs rfl (by rfl) (by rfl) fun _ h => h) (by assumption) ?_
  try simp only [List.getElem_toArray, List.getElem_cons_succ, List.getElem_cons_zero, Act.put, List.setIfInBounds_toArray, List.set_cons_zero, List.set_cons_succ]
  refine wpAnyH_take (i := 1) (v := ?_) rfl (by kernel_rfl) (by kernel_rfl) (by kernel_rfl) (fun _ _ _ h => h) (Or.inl ⟨by rfl, ?_⟩) (by assumption) ?_
  rotate_left
  · intro wx hSw
    have hSc : wx.cell? ⟨w.heap.size, 5, none⟩ = some (.int .u64 (c 5)) := by rw [hSw.cell, csA_5, dq]
    clear hSw
    go_simp
    try with_reducible rfl
  try simp only [List.getElem_toArray, List.getElem_cons_succ, List.getElem_cons_zero, Act.put, List.setIfInBounds_toArray, List.set_cons_zero, List.set_cons_succ]
  refine wpAnyH_take (i := 2) (v := ?_) rfl (by kernel_rfl) (by kernel_rfl) (by kernel_rfl) (fun _ _ _ h => h) (Or.inl ⟨by rfl, ?_⟩) (by assumption) ?_
  rotate_left
  · intro wx hSw
    have hSc : wx.cell? ⟨w.heap.size, 5, none⟩ = some (.int .u64 (c 5)) := by rw [hSw.cell, csA_5, dq]
    clear hSw
    go_simp
    try with_reducible rfl
  try simp only [List.getElem_toArray, List.getElem_cons_succ, List.getElem_cons_zero, Act.put, List.setIfInBounds_toArray, List.set_cons_zero, List.set_cons_succ]
  refine wpAnyH_take (i := 3) (v := ?_) rfl (by kernel_rfl) (by kernel_rfl) (by kernel_rfl) (fun _ _ _ h => h) (Or.inl ⟨by rfl, ?_⟩) (by assumption) ?_
  rotate_left
  · intro wx hSw
    have hSc : wx.cell? ⟨w.heap.size, 5, none⟩ = some (.int .u64 (c 5)) := by rw [hSw.cell, csA_5, dq]
    clear hSw
    go_simp
    try with_reducible rfl
  try simp only [List.getElem_toArray, List.getElem_cons_succ, List.getElem_cons_zero, Act.put, List.setIfInBounds_toArray, List.set_cons_zero, List.set_cons_succ]
  refine wpAnyH_take (i := 4) (v := ?_) rfl (by kernel_rfl) (by kernel_rfl) (by kernel_rfl) (fun _ _ _ h => h) (Or.inl ⟨by rfl, ?_⟩) (by assumption) ?_
  rotate_left
  · intro wx hSw
    have hSc : wx.cell? ⟨w.heap.size, 5, none⟩ = some (.int .u64 (c 5)) := by rw [hSw.cell, csA_5, dq]
    clear hSw
    go_simp
    try with_reducible rfl
  try simp only [List.getElem_toArray, List.getElem_cons_succ, List.getElem_cons_zero, Act.put, List.setIfInBounds_toArray, List.set_cons_zero, List.set_cons_succ]
  refine wpAnyH_ready (rs := [5]) (by kernel_rfl) (by simp) ?_
  refine AllReadyH.cons rfl (fun K hK => ?_) AllReadyH.nil
  go_simp
  go_at_call 28
  refine (place_c (c 5) k true v0 v1 k0 k1 _).mono ?_
  rintro e w' ⟨rfl, rfl⟩
  go_wp2_with fail
  refine hK.out _ _ (by assumption) (fun hHeld => ?_)
  clear hK K
  try simp only [List.getElem_toArray, List.getElem_cons_succ, List.getElem_cons_zero, Act.put, List.setIfInBounds_toArray, List.set_cons_zero, List.set_cons_succ]
  refine wpAnyH_ready (rs := [6]) (by kernel_rfl) (by simp) ?_
  refine AllReadyH.cons rfl (fun K hK => ?_) AllReadyH.nil
  rw [if_pos (by rfl)]
  refine wp_store_row 24 (.tmp 12) (.tmp 89) rfl (w.heap.size + 1) (csA d) (by rfl) (by rfl) _ _ kz csInfo rfl (csA_one d) ?_
  have kl := kz.setRow (cs := csA d)
  have gl := (g3.drew1).setRow (b := w.heap.size + 1) (Nat.le_succ_of_le hgs) (csA d)
  have hl := (Blk.otherRow (g := w.heap.size + 1) (new := csA d) hHeld (by omega))
  refine hK.out _ _ hl (fun hHeld => ?_)
  clear hK K hl
  try simp only [List.getElem_toArray, List.getElem_cons_succ, List.getElem_cons_zero, Act.put, List.setIfInBounds_toArray, List.set_cons_zero, List.set_cons_succ]
  refine wpAnyH_take (i := 7) (v := ?_) rfl (by kernel_rfl) (by kernel_rfl) (by kernel_rfl) (fun _ _ _ h => h) (Or.inl ⟨by rfl, ?_⟩) (by assumption) ?_
  rotate_left
  · intro wx hSw
    have hSc : wx.cell? ⟨w.heap.size, 5, none⟩ = some (.int .u64 (c 5)) := by rw [hSw.cell, csA_5, dq]
    clear hSw
    go_simp
    try with_reducible rfl
  try simp only [List.getElem_toArray, List.getElem_cons_succ, List.getElem_cons_zero, Act.put, List.setIfInBounds_toArray, List.set_cons_zero, List.set_cons_succ]
  refine wpAnyH_take (i := 8) (v := ?_) rfl (by kernel_rfl) (by kernel_rfl) (by kernel_rfl) (fun _ _ _ h => h) (Or.inl ⟨by rfl, ?_⟩) (by assumption) ?_
  rotate_left
  · intro wx hSw
    have hSc : wx.cell? ⟨w.heap.size, 5, none⟩ = some (.int .u64 (c 5)) := by rw [hSw.cell, csA_5, dq]
    clear hSw
    go_simp
    try with_reducible rfl
  try simp only [List.getElem_toArray, List.getElem_cons_succ, List.getElem_cons_zero, Act.put, List.setIfInBounds_toArray, List.set_cons_zero, List.set_cons_succ]
  refine wpAnyH_done (by kernel_rfl) ?_ _
  try simp only [List.getElem_toArray, List.getElem_cons_succ, List.getElem_cons_zero, Act.put, List.setIfInBounds_toArray, List.set_cons_zero, List.set_cons_succ]
  go_wp2_with fail
  exact bodyPost_ret (v := .tuple #[csV d, .int .i64 3, .int .u64 (placeV (c 5) k true)]) (results_cs3 (p := 12) (q := 13) (r := 14) Tryd.results11 _ _ (w.heap.size + 1) kl rfl) rfl ⟨by rw [HD.out], gl⟩

set_option maxRecDepth 100000 in
set_option maxHeartbeats 2000000 in
theorem ent_m_irq_two (c : Nat → Int) (s dl k b : Nat) (p pc cause tval y : Int) (hs : s < 2 ^ 64) (c0 : c 0 = (s : Int)) (hd : dl < 2 ^ 64) (cd : c 2 = (dl : Int)) (hk : IntKind.u64.wrap cause = (k : Int)) (hk1 : k < 2 ^ 64) (hb : b < 4) (hp : IntKind.u64.wrap p % 4 = (b : Int)) (hy : whyV k true = y)
    (v0 : 0 ≤ c 5) (v1 : c 5 < 18446744073709551616) (p1 : decide (p ≤ 1) = false) (m : Nat) (hm2 : m = b * 2048) (q2 : ((b : Int) == 2) = true) {W w : World} (hg : Grew W w) :
    Calls Tryd.prog 11 #[csV c, .int .i64 p, .int .u64 pc, .int .i64 cause, .bool true, .int .u64 tval] w fun e w' => e = .returned (.tuple #[csV (upd (upd (upd (upd c 8 (y)) 7 (bits .andNot .u64 pc 1)) 9 (tval)) 0 ((ndn (setN (setN s 7 (bitN s 3)) 3 0) 6144 : Nat) : Int)), .int .i64 3, .int .u64 (placeV (c 5) k true)]) ∧ Grew W w' := by
  have hgs := hg.size
  have HS := Lib.hid hs
  have HDL := Lib.hid hd
  have k0 : 0 ≤ (k : Int) := Int.natCast_nonneg _
  have k1 : (k : Int) < 18446744073709551616 := by omega
  have s1 := setN_lt s 7 _ hs (by decide) (bitN_lt s 3)
  have s2 := setN_lt _ 3 0 s1 (by decide) (by decide)
  have S1 := Lib.hid s1
  have S2 := Lib.hid s2
  have HB := Lib.hid hb
  have F1 := Lib.hid (l_not _ s2 6144 (by decide) 6144 rfl)
  have F2 := Lib.hid (l_or _ (ndn_lt _ 6144 s2) (0) (by omega) (0) rfl)
  have F3 := Lib.hid (show IntKind.u64.wrap ((b : Int) * 2048) = (m : Int) by rw [hm2, IntWalk.u64_in _ (by omega)]; simp)
  clear hm2
  have hm : ((k % 64 : Nat) : Int) = (k : Int) % 64 := by omega
  have HM := Lib.hid hm
  have hml := Lib.hid (show k % 64 < 64 by omega)
  clear hs hd hk1 s1 s2 hb hm
  simp only [whyV, if_true] at hy
  obtain ⟨r, hr⟩ : ∃ r, IntKind.u64.wrap p = r := ⟨_, rfl⟩
  have r0 : 0 ≤ r := by rw [← hr, wrap_u64]; omega
  have r1 : r < 18446744073709551616 := by rw [← hr, wrap_u64]; omega
  rw [hr] at hp
  go_enter Tryd.func11, Tryd.ntmps11
  go_upto_region 1 with fail
  refine wp_gen2 hg ?_
  intro w1 kb kz g1
  change Blk w1 (w.heap.size + 1) (csA fun _ => 0) 24 at kz
  have y1 : w1.cell? ⟨w.heap.size, 1, none⟩ = some (.int .u64 (c 1)) := by rw [kb.cell, csA_1]
  have y2 : w1.cell? ⟨w.heap.size, 2, none⟩ = some (.int .u64 (c 2)) := by rw [kb.cell, csA_2]
  have ya : w1.cell? ⟨w.heap.size, 8, none⟩ = some (.int .u64 (c 8)) := by rw [kb.cell, csA_8]
  have yb : w1.cell? ⟨w.heap.size, 7, none⟩ = some (.int .u64 (c 7)) := by rw [kb.cell, csA_7]
  have yc : w1.cell? ⟨w.heap.size, 9, none⟩ = some (.int .u64 (c 9)) := by rw [kb.cell, csA_9]
  have fa := kb.free 8
  have fb := kb.free 7
  have fc := kb.free 9
  go_upto_region 15 with (go_at_call 26; refine (bit_l dl HDL.out (k % 64) _ HM.out.symm hml.out _).mono ?_; rintro e w2 ⟨rfl, rfl⟩)
  have k2 : Blk (World.setCell (World.setCell (World.setCell w1 ⟨w.heap.size, 8, none⟩ (.int .u64 (y))) ⟨w.heap.size, 7, none⟩ (.int .u64 (bits .andNot .u64 pc 1))) ⟨w.heap.size, 9, none⟩ (.int .u64 (tval))) w.heap.size (csA (upd (upd (upd c 8 (y)) 7 (bits .andNot .u64 pc 1)) 9 (tval))) 24 := by
    have := ((kb.set (o := 8) (.int .u64 (y))).set (o := 7) (.int .u64 (bits .andNot .u64 pc 1))).set (o := 9) (.int .u64 (tval))
    rw [csU_8, csU_7, csU_9] at this
    exact this
  have z2 := ((kz.other (o := 8) (c := w.heap.size) (by omega) (.int .u64 (y))).other (o := 7) (c := w.heap.size) (by omega) (.int .u64 (bits .andNot .u64 pc 1))).other (o := 9) (c := w.heap.size) (by omega) (.int .u64 (tval))
  have g2 : Grew W (World.setCell (World.setCell (World.setCell w1 ⟨w.heap.size, 8, none⟩ (.int .u64 (y))) ⟨w.heap.size, 7, none⟩ (.int .u64 (bits .andNot .u64 pc 1))) ⟨w.heap.size, 9, none⟩ (.int .u64 (tval))) := (((g1.setCell hgs _).setCell hgs _).setCell hgs _)
  clear y1 y2 ya yb yc fa fb fc
  have y0 : ((World.setCell (World.setCell (World.setCell w1 ⟨w.heap.size, 8, none⟩ (.int .u64 (y))) ⟨w.heap.size, 7, none⟩ (.int .u64 (bits .andNot .u64 pc 1))) ⟨w.heap.size, 9, none⟩ (.int .u64 (tval)))).cell? ⟨w.heap.size, 0, none⟩ = some (.int .u64 (s : Nat)) := by rw [k2.cell, csA_0]; show some (Value.int .u64 (c 0)) = _; rw [c0]
  have f0 := k2.free 0
  generalize (World.setCell (World.setCell (World.setCell w1 ⟨w.heap.size, 8, none⟩ (.int .u64 (y))) ⟨w.heap.size, 7, none⟩ (.int .u64 (bits .andNot .u64 pc 1))) ⟨w.heap.size, 9, none⟩ (.int .u64 (tval))) = w2 at *
  have E1 := F1.out
  have E2 := F2.out
  have E3 := F3.out
  refine region_quiet_tail 12 (by kernel_rfl) (by kernel_rfl) ?_
  simp only [List.take_succ_cons, List.take_zero, List.drop_succ_cons, List.drop_zero]
  repeat (first
    | go_big_quiet_step ((first | (go_at_call 26; with_reducible exact quiet_eq (bit_l s HS.out 3 3 rfl (by decide) _)) | (go_at_call 27; with_reducible exact quiet_eq (set_l s HS.out 7 7 rfl (by decide) (bitN s 3) ((bitN s 3 : Nat) : Int) rfl (bitN_lt _ _) _)) | (go_at_call 27; with_reducible exact quiet_eq (set_l _ S1.out 3 3 rfl (by decide) 0 0 rfl (by decide) _))))
    | quiet_step ((first | (go_at_call 26; with_reducible exact quiet_eq (bit_l s HS.out 3 3 rfl (by decide) _)) | (go_at_call 27; with_reducible exact quiet_eq (set_l s HS.out 7 7 rfl (by decide) (bitN s 3) ((bitN s 3 : Nat) : Int) rfl (bitN_lt _ _) _)) | (go_at_call 27; with_reducible exact quiet_eq (set_l _ S1.out 3 3 rfl (by decide) 0 0 rfl (by decide) _)))))
  refine wpQuiet_nil ?_
  intro nq
  go_upto_region 16 with fail
  have k3 : Blk (World.setCell (w2.drewN nq) ⟨w.heap.size, 0, none⟩ (.int .u64 (((ndn (setN (setN s 7 (bitN s 3)) 3 0) 6144 : Nat) : Int)))) w.heap.size (csA (upd (upd (upd (upd c 8 (y)) 7 (bits .andNot .u64 pc 1)) 9 (tval)) 0 ((ndn (setN (setN s 7 (bitN s 3)) 3 0) 6144 : Nat) : Int))) 24 := by
    have := (k2.drewN nq).set (o := 0) (.int .u64 (((ndn (setN (setN s 7 (bitN s 3)) 3 0) 6144 : Nat) : Int)))
    rw [csU_0] at this
    exact this
  have z3 := (z2.drewN nq).other (o := 0) (c := w.heap.size) (by omega) (.int .u64 (((ndn (setN (setN s 7 (bitN s 3)) 3 0) 6144 : Nat) : Int)))
  have g3 : Grew W (World.setCell (w2.drewN nq) ⟨w.heap.size, 0, none⟩ (.int .u64 (((ndn (setN (setN s 7 (bitN s 3)) 3 0) 6144 : Nat) : Int)))) := (g2.drewN nq).setCell hgs _
  clear y0 f0
  generalize World.setCell (w2.drewN nq) ⟨w.heap.size, 0, none⟩ (.int .u64 (((ndn (setN (setN s 7 (bitN s 3)) 3 0) 6144 : Nat) : Int))) = w3 at *
  obtain ⟨d, hd⟩ : ∃ d, d = upd (upd (upd (upd c 8 (y)) 7 (bits .andNot .u64 pc 1)) 9 (tval)) 0 ((ndn (setN (setN s 7 (bitN s 3)) 3 0) 6144 : Nat) : Int) := ⟨_, rfl⟩
  have dq : d 5 = c 5 := by rw [hd]; rfl
  rw [← hd] at k3
  have HD := Lib.hid hd
  clear hd
  have kz := z3.drew
  refine wp_region_held_drew (S := fun w' => Blk w' w.heap.size (csA d) 24) (by kernel_rfl) (k3.drew) (fun hHeld => ?_)
  refine wpAnyH_take (i := 0) (v := csV d) rfl (by kernel_rfl) (by kernel_rfl) (by kernel_rfl) (fun _ _ _ h => h) (yl_cs rfl (by rfl) (by rfl) fun _ h => h) (by assumption) ?_
  try simp only [List.getElem_toArray, List.getElem_cons_succ, List.getElem_cons_zero, Act.put, List.setIfInBounds_toArray, List.set_cons_zero, List.set_cons_succ]
  refine wpAnyH_take (i := 1) (v := ?_) rfl (by kernel_rfl) (by kernel_rfl) (by kernel_rfl) (fun _ _ _ h => h) (Or.inl ⟨by rfl, ?_⟩) (by assumption) ?_
  rotate_left
  · intro wx hSw
    have hSc : wx.cell? ⟨w.heap.size, 5, none⟩ = some (.int .u64 (c 5)) := by rw [hSw.cell, csA_5, dq]
    clear hSw
    go_simp
    try with_reducible rfl
  try simp only [List.getElem_toArray, List.getElem_cons_succ, List.getElem_cons_zero, Act.put, List.setIfInBounds_toArray, List.set_cons_zero, List.set_cons_succ]
  refine wpAnyH_take (i := 2) (v := ?_) rfl (by kernel_rfl) (by kernel_rfl) (by kernel_rfl) (fun _ _ _ h => h) (Or.inl ⟨by rfl, ?_⟩) (by assumption) ?_
  rotate_left
  · intro wx hSw
    have hSc : wx.cell? ⟨w.heap.size, 5, none⟩ = some (.int .u64 (c 5)) := by rw [hSw.cell, csA_5, dq]
    clear hSw
    go_simp
    try with_reducible rfl
  try simp only [List.getElem_toArray, List.getElem_cons_succ, List.getElem_cons_zero, Act.put, List.setIfInBounds_toArray, List.set_cons_zero, List.set_cons_succ]
  refine wpAnyH_take (i := 3) (v := ?_) rfl (by kernel_rfl) (by kernel_rfl) (by kernel_rfl) (fun _ _ _ h => h) (Or.inl ⟨by rfl, ?_⟩) (by assumption) ?_
  rotate_left
  · intro wx hSw
    have hSc : wx.cell? ⟨w.heap.size, 5, none⟩ = some (.int .u64 (c 5)) := by rw [hSw.cell, csA_5, dq]
    clear hSw
    go_simp
    try with_reducible rfl
  try simp only [List.getElem_toArray, List.getElem_cons_succ, List.getElem_cons_zero, Act.put, List.setIfInBounds_toArray, List.set_cons_zero, List.set_cons_succ]
  refine wpAnyH_take (i := 4) (v := ?_) rfl (by kernel_rfl) (by kernel_rfl) (by kernel_rfl) (fun _ _ _ h => h) (Or.inl ⟨by rfl, ?_⟩) (by assumption) ?_
  rotate_left
  · intro wx hSw
    have hSc : wx.cell? ⟨w.heap.size, 5, none⟩ = some (.int .u64 (c 5)) := by rw [hSw.cell, csA_5, dq]
    clear hSw
    go_simp
    try with_reducible rfl
  try simp only [List.getElem_toArray, List.getElem_cons_succ, List.getElem_cons_zero, Act.put, List.setIfInBounds_toArray, List.set_cons_zero, List.set_cons_succ]
  refine wpAnyH_ready (rs := [5]) (by kernel_rfl) (by simp) ?_
  refine AllReadyH.cons rfl (fun K hK => ?_) AllReadyH.nil
  go_simp
  go_at_call 28
  refine (place_c (c 5) k true v0 v1 k0 k1 _).mono ?_
  rintro e w' ⟨rfl, rfl⟩
  go_wp2_with fail
  refine hK.out _ _ (by assumption) (fun hHeld => ?_)
  clear hK K
  try simp only [List.getElem_toArray, List.getElem_cons_succ, List.getElem_cons_zero, Act.put, List.setIfInBounds_toArray, List.set_cons_zero, List.set_cons_succ]
  refine wpAnyH_ready (rs := [6]) (by kernel_rfl) (by simp) ?_
  refine AllReadyH.cons rfl (fun K hK => ?_) AllReadyH.nil
  rw [if_pos (by rfl)]
  refine wp_store_row 24 (.tmp 12) (.tmp 89) rfl (w.heap.size + 1) (csA d) (by rfl) (by rfl) _ _ kz csInfo rfl (csA_one d) ?_
  have kl := kz.setRow (cs := csA d)
  have gl := (g3.drew1).setRow (b := w.heap.size + 1) (Nat.le_succ_of_le hgs) (csA d)
  have hl := (Blk.otherRow (g := w.heap.size + 1) (new := csA d) hHeld (by omega))
  refine hK.out _ _ hl (fun hHeld => ?_)
  clear hK K hl
  try simp only [List.getElem_toArray, List.getElem_cons_succ, List.getElem_cons_zero, Act.put, List.setIfInBounds_toArray, List.set_cons_zero, List.set_cons_succ]
  refine wpAnyH_take (i := 7) (v := ?_) rfl (by kernel_rfl) (by kernel_rfl) (by kernel_rfl) (fun _ _ _ h => h) (Or.inl ⟨by rfl, ?_⟩) (by assumption) ?_
  rotate_left
  · intro wx hSw
    have hSc : wx.cell? ⟨w.heap.size, 5, none⟩ = some (.int .u64 (c 5)) := by rw [hSw.cell, csA_5, dq]
    clear hSw
    go_simp
    try with_reducible rfl
  try simp only [List.getElem_toArray, List.getElem_cons_succ, List.getElem_cons_zero, Act.put, List.setIfInBounds_toArray, List.set_cons_zero, List.set_cons_succ]
  refine wpAnyH_take (i := 8) (v := ?_) rfl (by kernel_rfl) (by kernel_rfl) (by kernel_rfl) (fun _ _ _ h => h) (Or.inl ⟨by rfl, ?_⟩) (by assumption) ?_
  rotate_left
  · intro wx hSw
    have hSc : wx.cell? ⟨w.heap.size, 5, none⟩ = some (.int .u64 (c 5)) := by rw [hSw.cell, csA_5, dq]
    clear hSw
    go_simp
    try with_reducible rfl
  try simp only [List.getElem_toArray, List.getElem_cons_succ, List.getElem_cons_zero, Act.put, List.setIfInBounds_toArray, List.set_cons_zero, List.set_cons_succ]
  refine wpAnyH_done (by kernel_rfl) ?_ _
  try simp only [List.getElem_toArray, List.getElem_cons_succ, List.getElem_cons_zero, Act.put, List.setIfInBounds_toArray, List.set_cons_zero, List.set_cons_succ]
  go_wp2_with fail
  exact bodyPost_ret (v := .tuple #[csV d, .int .i64 3, .int .u64 (placeV (c 5) k true)]) (results_cs3 (p := 12) (q := 13) (r := 14) Tryd.results11 _ _ (w.heap.size + 1) kl rfl) rfl ⟨by rw [HD.out], gl⟩

set_option maxRecDepth 100000 in
set_option maxHeartbeats 2000000 in
theorem ent_m_irq (c : Nat → Int) (s dl k b : Nat) (p pc cause tval y : Int) (hs : s < 2 ^ 64) (c0 : c 0 = (s : Int)) (hd : dl < 2 ^ 64) (cd : c 2 = (dl : Int)) (hk : IntKind.u64.wrap cause = (k : Int)) (hk1 : k < 2 ^ 64) (hb : b < 4) (hp : IntKind.u64.wrap p % 4 = (b : Int)) (hy : whyV k true = y)
    (v0 : 0 ≤ c 5) (v1 : c 5 < 18446744073709551616) (p1 : decide (p ≤ 1) = false) (m : Nat) (hm2 : m = b * 2048) (q2 : ((b : Int) == 2) = false) {W w : World} (hg : Grew W w) :
    Calls Tryd.prog 11 #[csV c, .int .i64 p, .int .u64 pc, .int .i64 cause, .bool true, .int .u64 tval] w fun e w' => e = .returned (.tuple #[csV (upd (upd (upd (upd c 8 (y)) 7 (bits .andNot .u64 pc 1)) 9 (tval)) 0 ((ndn (setN (setN s 7 (bitN s 3)) 3 0) 6144 ||| m : Nat) : Int)), .int .i64 3, .int .u64 (placeV (c 5) k true)]) ∧ Grew W w' := by
  have hgs := hg.size
  have HS := Lib.hid hs
  have HDL := Lib.hid hd
  have k0 : 0 ≤ (k : Int) := Int.natCast_nonneg _
  have k1 : (k : Int) < 18446744073709551616 := by omega
  have s1 := setN_lt s 7 _ hs (by decide) (bitN_lt s 3)
  have s2 := setN_lt _ 3 0 s1 (by decide) (by decide)
  have S1 := Lib.hid s1
  have S2 := Lib.hid s2
  have HB := Lib.hid hb
  have F1 := Lib.hid (l_not _ s2 6144 (by decide) 6144 rfl)
  have F2 := Lib.hid (l_or _ (ndn_lt _ 6144 s2) (m) (by omega) ((m : Int)) rfl)
  have F3 := Lib.hid (show IntKind.u64.wrap ((b : Int) * 2048) = (m : Int) by rw [hm2, IntWalk.u64_in _ (by omega)]; simp)
  clear hm2
  have hm : ((k % 64 : Nat) : Int) = (k : Int) % 64 := by omega
  have HM := Lib.hid hm
  have hml := Lib.hid (show k % 64 < 64 by omega)
  clear hs hd hk1 s1 s2 hb hm
  simp only [whyV, if_true] at hy
  obtain ⟨r, hr⟩ : ∃ r, IntKind.u64.wrap p = r := ⟨_, rfl⟩
  have r0 : 0 ≤ r := by rw [← hr, wrap_u64]; omega
  have r1 : r < 18446744073709551616 := by rw [← hr, wrap_u64]; omega
  rw [hr] at hp
  go_enter Tryd.func11, Tryd.ntmps11
  go_upto_region 1 with fail
  refine wp_gen2 hg ?_
  intro w1 kb kz g1
  change Blk w1 (w.heap.size + 1) (csA fun _ => 0) 24 at kz
  have y1 : w1.cell? ⟨w.heap.size, 1, none⟩ = some (.int .u64 (c 1)) := by rw [kb.cell, csA_1]
  have y2 : w1.cell? ⟨w.heap.size, 2, none⟩ = some (.int .u64 (c 2)) := by rw [kb.cell, csA_2]
  have ya : w1.cell? ⟨w.heap.size, 8, none⟩ = some (.int .u64 (c 8)) := by rw [kb.cell, csA_8]
  have yb : w1.cell? ⟨w.heap.size, 7, none⟩ = some (.int .u64 (c 7)) := by rw [kb.cell, csA_7]
  have yc : w1.cell? ⟨w.heap.size, 9, none⟩ = some (.int .u64 (c 9)) := by rw [kb.cell, csA_9]
  have fa := kb.free 8
  have fb := kb.free 7
  have fc := kb.free 9
  go_upto_region 15 with (go_at_call 26; refine (bit_l dl HDL.out (k % 64) _ HM.out.symm hml.out _).mono ?_; rintro e w2 ⟨rfl, rfl⟩)
  have k2 : Blk (World.setCell (World.setCell (World.setCell w1 ⟨w.heap.size, 8, none⟩ (.int .u64 (y))) ⟨w.heap.size, 7, none⟩ (.int .u64 (bits .andNot .u64 pc 1))) ⟨w.heap.size, 9, none⟩ (.int .u64 (tval))) w.heap.size (csA (upd (upd (upd c 8 (y)) 7 (bits .andNot .u64 pc 1)) 9 (tval))) 24 := by
    have := ((kb.set (o := 8) (.int .u64 (y))).set (o := 7) (.int .u64 (bits .andNot .u64 pc 1))).set (o := 9) (.int .u64 (tval))
    rw [csU_8, csU_7, csU_9] at this
    exact this
  have z2 := ((kz.other (o := 8) (c := w.heap.size) (by omega) (.int .u64 (y))).other (o := 7) (c := w.heap.size) (by omega) (.int .u64 (bits .andNot .u64 pc 1))).other (o := 9) (c := w.heap.size) (by omega) (.int .u64 (tval))
  have g2 : Grew W (World.setCell (World.setCell (World.setCell w1 ⟨w.heap.size, 8, none⟩ (.int .u64 (y))) ⟨w.heap.size, 7, none⟩ (.int .u64 (bits .andNot .u64 pc 1))) ⟨w.heap.size, 9, none⟩ (.int .u64 (tval))) := (((g1.setCell hgs _).setCell hgs _).setCell hgs _)
  clear y1 y2 ya yb yc fa fb fc
  have y0 : ((World.setCell (World.setCell (World.setCell w1 ⟨w.heap.size, 8, none⟩ (.int .u64 (y))) ⟨w.heap.size, 7, none⟩ (.int .u64 (bits .andNot .u64 pc 1))) ⟨w.heap.size, 9, none⟩ (.int .u64 (tval)))).cell? ⟨w.heap.size, 0, none⟩ = some (.int .u64 (s : Nat)) := by rw [k2.cell, csA_0]; show some (Value.int .u64 (c 0)) = _; rw [c0]
  have f0 := k2.free 0
  generalize (World.setCell (World.setCell (World.setCell w1 ⟨w.heap.size, 8, none⟩ (.int .u64 (y))) ⟨w.heap.size, 7, none⟩ (.int .u64 (bits .andNot .u64 pc 1))) ⟨w.heap.size, 9, none⟩ (.int .u64 (tval))) = w2 at *
  have E1 := F1.out
  have E2 := F2.out
  have E3 := F3.out
  refine region_quiet_tail 12 (by kernel_rfl) (by kernel_rfl) ?_
  simp only [List.take_succ_cons, List.take_zero, List.drop_succ_cons, List.drop_zero]
  repeat (first
    | go_big_quiet_step ((first | (go_at_call 26; with_reducible exact quiet_eq (bit_l s HS.out 3 3 rfl (by decide) _)) | (go_at_call 27; with_reducible exact quiet_eq (set_l s HS.out 7 7 rfl (by decide) (bitN s 3) ((bitN s 3 : Nat) : Int) rfl (bitN_lt _ _) _)) | (go_at_call 27; with_reducible exact quiet_eq (set_l _ S1.out 3 3 rfl (by decide) 0 0 rfl (by decide) _))))
    | quiet_step ((first | (go_at_call 26; with_reducible exact quiet_eq (bit_l s HS.out 3 3 rfl (by decide) _)) | (go_at_call 27; with_reducible exact quiet_eq (set_l s HS.out 7 7 rfl (by decide) (bitN s 3) ((bitN s 3 : Nat) : Int) rfl (bitN_lt _ _) _)) | (go_at_call 27; with_reducible exact quiet_eq (set_l _ S1.out 3 3 rfl (by decide) 0 0 rfl (by decide) _)))))
  refine wpQuiet_nil ?_
  intro nq
  go_upto_region 16 with fail
  have k3 : Blk (World.setCell (w2.drewN nq) ⟨w.heap.size, 0, none⟩ (.int .u64 (((ndn (setN (setN s 7 (bitN s 3)) 3 0) 6144 ||| m : Nat) : Int)))) w.heap.size (csA (upd (upd (upd (upd c 8 (y)) 7 (bits .andNot .u64 pc 1)) 9 (tval)) 0 ((ndn (setN (setN s 7 (bitN s 3)) 3 0) 6144 ||| m : Nat) : Int))) 24 := by
    have := (k2.drewN nq).set (o := 0) (.int .u64 (((ndn (setN (setN s 7 (bitN s 3)) 3 0) 6144 ||| m : Nat) : Int)))
    rw [csU_0] at this
    exact this
  have z3 := (z2.drewN nq).other (o := 0) (c := w.heap.size) (by omega) (.int .u64 (((ndn (setN (setN s 7 (bitN s 3)) 3 0) 6144 ||| m : Nat) : Int)))
  have g3 : Grew W (World.setCell (w2.drewN nq) ⟨w.heap.size, 0, none⟩ (.int .u64 (((ndn (setN (setN s 7 (bitN s 3)) 3 0) 6144 ||| m : Nat) : Int)))) := (g2.drewN nq).setCell hgs _
  clear y0 f0
  generalize World.setCell (w2.drewN nq) ⟨w.heap.size, 0, none⟩ (.int .u64 (((ndn (setN (setN s 7 (bitN s 3)) 3 0) 6144 ||| m : Nat) : Int))) = w3 at *
  obtain ⟨d, hd⟩ : ∃ d, d = upd (upd (upd (upd c 8 (y)) 7 (bits .andNot .u64 pc 1)) 9 (tval)) 0 ((ndn (setN (setN s 7 (bitN s 3)) 3 0) 6144 ||| m : Nat) : Int) := ⟨_, rfl⟩
  have dq : d 5 = c 5 := by rw [hd]; rfl
  rw [← hd] at k3
  have HD := Lib.hid hd
  clear hd
  have kz := z3.drew
  refine wp_region_held_drew (S := fun w' => Blk w' w.heap.size (csA d) 24) (by kernel_rfl) (k3.drew) (fun hHeld => ?_)
  refine wpAnyH_take (i := 0) (v := csV d) rfl (by kernel_rfl) (by kernel_rfl) (by kernel_rfl) (fun _ _ _ h => h) (yl_cs rfl (by rfl) (by rfl) fun _ h => h) (by assumption) ?_
  try simp only [List.getElem_toArray, List.getElem_cons_succ, List.getElem_cons_zero, Act.put, List.setIfInBounds_toArray, List.set_cons_zero, List.set_cons_succ]
  refine wpAnyH_take (i := 1) (v := ?_) rfl (by kernel_rfl) (by kernel_rfl) (by kernel_rfl) (fun _ _ _ h => h) (Or.inl ⟨by rfl, ?_⟩) (by assumption) ?_
  rotate_left
  · intro wx hSw
    have hSc : wx.cell? ⟨w.heap.size, 5, none⟩ = some (.int .u64 (c 5)) := by rw [hSw.cell, csA_5, dq]
    clear hSw
    go_simp
    try with_reducible rfl
  try simp only [List.getElem_toArray, List.getElem_cons_succ, List.getElem_cons_zero, Act.put, List.setIfInBounds_toArray, List.set_cons_zero, List.set_cons_succ]
  refine wpAnyH_take (i := 2) (v := ?_) rfl (by kernel_rfl) (by kernel_rfl) (by kernel_rfl) (fun _ _ _ h => h) (Or.inl ⟨by rfl, ?_⟩) (by assumption) ?_
  rotate_left
  · intro wx hSw
    have hSc : wx.cell? ⟨w.heap.size, 5, none⟩ = some (.int .u64 (c 5)) := by rw [hSw.cell, csA_5, dq]
    clear hSw
    go_simp
    try with_reducible rfl
  try simp only [List.getElem_toArray, List.getElem_cons_succ, List.getElem_cons_zero, Act.put, List.setIfInBounds_toArray, List.set_cons_zero, List.set_cons_succ]
  refine wpAnyH_take (i := 3) (v := ?_) rfl (by kernel_rfl) (by kernel_rfl) (by kernel_rfl) (fun _ _ _ h => h) (Or.inl ⟨by rfl, ?_⟩) (by assumption) ?_
  rotate_left
  · intro wx hSw
    have hSc : wx.cell? ⟨w.heap.size, 5, none⟩ = some (.int .u64 (c 5)) := by rw [hSw.cell, csA_5, dq]
    clear hSw
    go_simp
    try with_reducible rfl
  try simp only [List.getElem_toArray, List.getElem_cons_succ, List.getElem_cons_zero, Act.put, List.setIfInBounds_toArray, List.set_cons_zero, List.set_cons_succ]
  refine wpAnyH_take (i := 4) (v := ?_) rfl (by kernel_rfl) (by kernel_rfl) (by kernel_rfl) (fun _ _ _ h => h) (Or.inl ⟨by rfl, ?_⟩) (by assumption) ?_
  rotate_left
  · intro wx hSw
    have hSc : wx.cell? ⟨w.heap.size, 5, none⟩ = some (.int .u64 (c 5)) := by rw [hSw.cell, csA_5, dq]
    clear hSw
    go_simp
    try with_reducible rfl
  try simp only [List.getElem_toArray, List.getElem_cons_succ, List.getElem_cons_zero, Act.put, List.setIfInBounds_toArray, List.set_cons_zero, List.set_cons_succ]
  refine wpAnyH_ready (rs := [5]) (by kernel_rfl) (by simp) ?_
  refine AllReadyH.cons rfl (fun K hK => ?_) AllReadyH.nil
  go_simp
  go_at_call 28
  refine (place_c (c 5) k true v0 v1 k0 k1 _).mono ?_
  rintro e w' ⟨rfl, rfl⟩
  go_wp2_with fail
  refine hK.out _ _ (by assumption) (fun hHeld => ?_)
  clear hK K
  try simp only [List.getElem_toArray, List.getElem_cons_succ, List.getElem_cons_zero, Act.put, List.setIfInBounds_toArray, List.set_cons_zero, List.set_cons_succ]
  refine wpAnyH_ready (rs := [6]) (by kernel_rfl) (by simp) ?_
  refine AllReadyH.cons rfl (fun K hK => ?_) AllReadyH.nil
  rw [if_pos (by rfl)]
  refine wp_store_row 24 (.tmp 12) (.tmp 89) rfl (w.heap.size + 1) (csA d) (by rfl) (by rfl) _ _ kz csInfo rfl (csA_one d) ?_
  have kl := kz.setRow (cs := csA d)
  have gl := (g3.drew1).setRow (b := w.heap.size + 1) (Nat.le_succ_of_le hgs) (csA d)
  have hl := (Blk.otherRow (g := w.heap.size + 1) (new := csA d) hHeld (by omega))
  refine hK.out _ _ hl (fun hHeld => ?_)
  clear hK K hl
  try simp only [List.getElem_toArray, List.getElem_cons_succ, List.getElem_cons_zero, Act.put, List.setIfInBounds_toArray, List.set_cons_zero, List.set_cons_succ]
  refine wpAnyH_take (i := 7) (v := ?_) rfl (by kernel_rfl) (by kernel_rfl) (by kernel_rfl) (fun _ _ _ h => h) (Or.inl ⟨by rfl, ?_⟩) (by assumption) ?_
  rotate_left
  · intro wx hSw
    have hSc : wx.cell? ⟨w.heap.size, 5, none⟩ = some (.int .u64 (c 5)) := by rw [hSw.cell, csA_5, dq]
    clear hSw
    go_simp
    try with_reducible rfl
  try simp only [List.getElem_toArray, List.getElem_cons_succ, List.getElem_cons_zero, Act.put, List.setIfInBounds_toArray, List.set_cons_zero, List.set_cons_succ]
  refine wpAnyH_take (i := 8) (v := ?_) rfl (by kernel_rfl) (by kernel_rfl) (by kernel_rfl) (fun _ _ _ h => h) (Or.inl ⟨by rfl, ?_⟩) (by assumption) ?_
  rotate_left
  · intro wx hSw
    have hSc : wx.cell? ⟨w.heap.size, 5, none⟩ = some (.int .u64 (c 5)) := by rw [hSw.cell, csA_5, dq]
    clear hSw
    go_simp
    try with_reducible rfl
  try simp only [List.getElem_toArray, List.getElem_cons_succ, List.getElem_cons_zero, Act.put, List.setIfInBounds_toArray, List.set_cons_zero, List.set_cons_succ]
  refine wpAnyH_done (by kernel_rfl) ?_ _
  try simp only [List.getElem_toArray, List.getElem_cons_succ, List.getElem_cons_zero, Act.put, List.setIfInBounds_toArray, List.set_cons_zero, List.set_cons_succ]
  go_wp2_with fail
  exact bodyPost_ret (v := .tuple #[csV d, .int .i64 3, .int .u64 (placeV (c 5) k true)]) (results_cs3 (p := 12) (q := 13) (r := 14) Tryd.results11 _ _ (w.heap.size + 1) kl rfl) rfl ⟨by rw [HD.out], gl⟩

set_option maxRecDepth 100000 in
set_option maxHeartbeats 2000000 in
theorem ent_m_low_two (c : Nat → Int) (s dl k b : Nat) (p pc cause tval y : Int) (hs : s < 2 ^ 64) (c0 : c 0 = (s : Int)) (hd : dl < 2 ^ 64) (cd : c 1 = (dl : Int)) (hk : IntKind.u64.wrap cause = (k : Int)) (hk1 : k < 2 ^ 64) (hb : b < 4) (hp : IntKind.u64.wrap p % 4 = (b : Int)) (hy : whyV k false = y)
    (v0 : 0 ≤ c 5) (v1 : c 5 < 18446744073709551616) (p1 : decide (p ≤ 1) = true) (pd : (((bitN dl (k % 64) : Nat) : Int) == 1) = false) (m : Nat) (hm2 : m = b * 2048) (q2 : ((b : Int) == 2) = true) {W w : World} (hg : Grew W w) :
    Calls Tryd.prog 11 #[csV c, .int .i64 p, .int .u64 pc, .int .i64 cause, .bool false, .int .u64 tval] w fun e w' => e = .returned (.tuple #[csV (upd (upd (upd (upd c 8 (y)) 7 (bits .andNot .u64 pc 1)) 9 (tval)) 0 ((ndn (setN (setN s 7 (bitN s 3)) 3 0) 6144 : Nat) : Int)), .int .i64 3, .int .u64 (placeV (c 5) k false)]) ∧ Grew W w' := by
  have hgs := hg.size
  have HS := Lib.hid hs
  have HDL := Lib.hid hd
  have k0 : 0 ≤ (k : Int) := Int.natCast_nonneg _
  have k1 : (k : Int) < 18446744073709551616 := by omega
  have s1 := setN_lt s 7 _ hs (by decide) (bitN_lt s 3)
  have s2 := setN_lt _ 3 0 s1 (by decide) (by decide)
  have S1 := Lib.hid s1
  have S2 := Lib.hid s2
  have HB := Lib.hid hb
  have F1 := Lib.hid (l_not _ s2 6144 (by decide) 6144 rfl)
  have F2 := Lib.hid (l_or _ (ndn_lt _ 6144 s2) (0) (by omega) (0) rfl)
  have F3 := Lib.hid (show IntKind.u64.wrap ((b : Int) * 2048) = (m : Int) by rw [hm2, IntWalk.u64_in _ (by omega)]; simp)
  clear hm2
  have hm : ((k % 64 : Nat) : Int) = (k : Int) % 64 := by omega
  have HM := Lib.hid hm
  have hml := Lib.hid (show k % 64 < 64 by omega)
  clear hs hd hk1 s1 s2 hb hm
  simp only [whyV, Bool.false_eq_true, if_false] at hy
  subst hy
  obtain ⟨r, hr⟩ : ∃ r, IntKind.u64.wrap p = r := ⟨_, rfl⟩
  have r0 : 0 ≤ r := by rw [← hr, wrap_u64]; omega
  have r1 : r < 18446744073709551616 := by rw [← hr, wrap_u64]; omega
  rw [hr] at hp
  go_enter Tryd.func11, Tryd.ntmps11
  go_upto_region 1 with fail
  refine wp_gen2 hg ?_
  intro w1 kb kz g1
  change Blk w1 (w.heap.size + 1) (csA fun _ => 0) 24 at kz
  have y1 : w1.cell? ⟨w.heap.size, 1, none⟩ = some (.int .u64 (c 1)) := by rw [kb.cell, csA_1]
  have y2 : w1.cell? ⟨w.heap.size, 2, none⟩ = some (.int .u64 (c 2)) := by rw [kb.cell, csA_2]
  have ya : w1.cell? ⟨w.heap.size, 8, none⟩ = some (.int .u64 (c 8)) := by rw [kb.cell, csA_8]
  have yb : w1.cell? ⟨w.heap.size, 7, none⟩ = some (.int .u64 (c 7)) := by rw [kb.cell, csA_7]
  have yc : w1.cell? ⟨w.heap.size, 9, none⟩ = some (.int .u64 (c 9)) := by rw [kb.cell, csA_9]
  have fa := kb.free 8
  have fb := kb.free 7
  have fc := kb.free 9
  go_upto_region 15 with (go_at_call 26; refine (bit_l dl HDL.out (k % 64) _ HM.out.symm hml.out _).mono ?_; rintro e w2 ⟨rfl, rfl⟩)
  have k2 : Blk (World.setCell (World.setCell (World.setCell w1 ⟨w.heap.size, 8, none⟩ (.int .u64 ((k : Int)))) ⟨w.heap.size, 7, none⟩ (.int .u64 (bits .andNot .u64 pc 1))) ⟨w.heap.size, 9, none⟩ (.int .u64 (tval))) w.heap.size (csA (upd (upd (upd c 8 ((k : Int))) 7 (bits .andNot .u64 pc 1)) 9 (tval))) 24 := by
    have := ((kb.set (o := 8) (.int .u64 ((k : Int)))).set (o := 7) (.int .u64 (bits .andNot .u64 pc 1))).set (o := 9) (.int .u64 (tval))
    rw [csU_8, csU_7, csU_9] at this
    exact this
  have z2 := ((kz.other (o := 8) (c := w.heap.size) (by omega) (.int .u64 ((k : Int)))).other (o := 7) (c := w.heap.size) (by omega) (.int .u64 (bits .andNot .u64 pc 1))).other (o := 9) (c := w.heap.size) (by omega) (.int .u64 (tval))
  have g2 : Grew W (World.setCell (World.setCell (World.setCell w1 ⟨w.heap.size, 8, none⟩ (.int .u64 ((k : Int)))) ⟨w.heap.size, 7, none⟩ (.int .u64 (bits .andNot .u64 pc 1))) ⟨w.heap.size, 9, none⟩ (.int .u64 (tval))) := (((g1.setCell hgs _).setCell hgs _).setCell hgs _)
  clear y1 y2 ya yb yc fa fb fc
  have y0 : ((World.setCell (World.setCell (World.setCell w1 ⟨w.heap.size, 8, none⟩ (.int .u64 ((k : Int)))) ⟨w.heap.size, 7, none⟩ (.int .u64 (bits .andNot .u64 pc 1))) ⟨w.heap.size, 9, none⟩ (.int .u64 (tval)))).cell? ⟨w.heap.size, 0, none⟩ = some (.int .u64 (s : Nat)) := by rw [k2.cell, csA_0]; show some (Value.int .u64 (c 0)) = _; rw [c0]
  have f0 := k2.free 0
  generalize (World.setCell (World.setCell (World.setCell w1 ⟨w.heap.size, 8, none⟩ (.int .u64 ((k : Int)))) ⟨w.heap.size, 7, none⟩ (.int .u64 (bits .andNot .u64 pc 1))) ⟨w.heap.size, 9, none⟩ (.int .u64 (tval))) = w2 at *
  have E1 := F1.out
  have E2 := F2.out
  have E3 := F3.out
  refine region_quiet_tail 12 (by kernel_rfl) (by kernel_rfl) ?_
  simp only [List.take_succ_cons, List.take_zero, List.drop_succ_cons, List.drop_zero]
  repeat (first
    | go_big_quiet_step ((first | (go_at_call 26; with_reducible exact quiet_eq (bit_l s HS.out 3 3 rfl (by decide) _)) | (go_at_call 27; with_reducible exact quiet_eq (set_l s HS.out 7 7 rfl (by decide) (bitN s 3) ((bitN s 3 : Nat) : Int) rfl (bitN_lt _ _) _)) | (go_at_call 27; with_reducible exact quiet_eq (set_l _ S1.out 3 3 rfl (by decide) 0 0 rfl (by decide) _))))
    | quiet_step ((first | (go_at_call 26; with_reducible exact quiet_eq (bit_l s HS.out 3 3 rfl (by decide) _)) | (go_at_call 27; with_reducible exact quiet_eq (set_l s HS.out 7 7 rfl (by decide) (bitN s 3) ((bitN s 3 : Nat) : Int) rfl (bitN_lt _ _) _)) | (go_at_call 27; with_reducible exact quiet_eq (set_l _ S1.out 3 3 rfl (by decide) 0 0 rfl (by decide) _)))))
  refine wpQuiet_nil ?_
  intro nq
  go_upto_region 16 with fail
  have k3 : Blk (World.setCell (w2.drewN nq) ⟨w.heap.size, 0, none⟩ (.int .u64 (((ndn (setN (setN s 7 (bitN s 3)) 3 0) 6144 : Nat) : Int)))) w.heap.size (csA (upd (upd (upd (upd c 8 ((k : Int))) 7 (bits .andNot .u64 pc 1)) 9 (tval)) 0 ((ndn (setN (setN s 7 (bitN s 3)) 3 0) 6144 : Nat) : Int))) 24 := by
    have := (k2.drewN nq).set (o := 0) (.int .u64 (((ndn (setN (setN s 7 (bitN s 3)) 3 0) 6144 : Nat) : Int)))
    rw [csU_0] at this
    exact this
  have z3 := (z2.drewN nq).other (o := 0) (c := w.heap.size) (by omega) (.int .u64 (((ndn (setN (setN s 7 (bitN s 3)) 3 0) 6144 : Nat) : Int)))
  have g3 : Grew W (World.setCell (w2.drewN nq) ⟨w.heap.size, 0, none⟩ (.int .u64 (((ndn (setN (setN s 7 (bitN s 3)) 3 0) 6144 : Nat) : Int)))) := (g2.drewN nq).setCell hgs _
  clear y0 f0
  generalize World.setCell (w2.drewN nq) ⟨w.heap.size, 0, none⟩ (.int .u64 (((ndn (setN (setN s 7 (bitN s 3)) 3 0) 6144 : Nat) : Int))) = w3 at *
  obtain ⟨d, hd⟩ : ∃ d, d = upd (upd (upd (upd c 8 ((k : Int))) 7 (bits .andNot .u64 pc 1)) 9 (tval)) 0 ((ndn (setN (setN s 7 (bitN s 3)) 3 0) 6144 : Nat) : Int) := ⟨_, rfl⟩
  have dq : d 5 = c 5 := by rw [hd]; rfl
  rw [← hd] at k3
  have HD := Lib.hid hd
  clear hd
  have kz := z3.drew
  refine wp_region_held_drew (S := fun w' => Blk w' w.heap.size (csA d) 24) (by kernel_rfl) (k3.drew) (fun hHeld => ?_)
  refine wpAnyH_take (i := 0) (v := csV d) rfl (by kernel_rfl) (by kernel_rfl) (by kernel_rfl) (fun _ _ _ h => h) (yl_cs rfl (by rfl) (by rfl) fun _ h => h) (by assumption) ?_
  try simp only [List.getElem_toArray, List.getElem_cons_succ, List.getElem_cons_zero, Act.put, List.setIfInBounds_toArray, List.set_cons_zero, List.set_cons_succ]
  refine wpAnyH_take (i := 1) (v := ?_) rfl (by kernel_rfl) (by kernel_rfl) (by kernel_rfl) (fun _ _ _ h => h) (Or.inl ⟨by rfl, ?_⟩) (by assumption) ?_
  rotate_left
  · intro wx hSw
    have hSc : wx.cell? ⟨w.heap.size, 5, none⟩ = some (.int .u64 (c 5)) := by rw [hSw.cell, csA_5, dq]
    clear hSw
    go_simp
    try with_reducible rfl
  try simp only [List.getElem_toArray, List.getElem_cons_succ, List.getElem_cons_zero, Act.put, List.setIfInBounds_toArray, List.set_cons_zero, List.set_cons_succ]
  refine wpAnyH_take (i := 2) (v := ?_) rfl (by kernel_rfl) (by kernel_rfl) (by kernel_rfl) (fun _ _ _ h => h) (Or.inl ⟨by rfl, ?_⟩) (by assumption) ?_
  rotate_left
  · intro wx hSw
    have hSc : wx.cell? ⟨w.heap.size, 5, none⟩ = some (.int .u64 (c 5)) := by rw [hSw.cell, csA_5, dq]
    clear hSw
    go_simp
    try with_reducible rfl
  try simp only [List.getElem_toArray, List.getElem_cons_succ, List.getElem_cons_zero, Act.put, List.setIfInBounds_toArray, List.set_cons_zero, List.set_cons_succ]
  refine wpAnyH_take (i := 3) (v := ?_) rfl (by kernel_rfl) (by kernel_rfl) (by kernel_rfl) (fun _ _ _ h => h) (Or.inl ⟨by rfl, ?_⟩) (by assumption) ?_
  rotate_left
  · intro wx hSw
    have hSc : wx.cell? ⟨w.heap.size, 5, none⟩ = some (.int .u64 (c 5)) := by rw [hSw.cell, csA_5, dq]
    clear hSw
    go_simp
    try with_reducible rfl
  try simp only [List.getElem_toArray, List.getElem_cons_succ, List.getElem_cons_zero, Act.put, List.setIfInBounds_toArray, List.set_cons_zero, List.set_cons_succ]
  refine wpAnyH_take (i := 4) (v := ?_) rfl (by kernel_rfl) (by kernel_rfl) (by kernel_rfl) (fun _ _ _ h => h) (Or.inl ⟨by rfl, ?_⟩) (by assumption) ?_
  rotate_left
  · intro wx hSw
    have hSc : wx.cell? ⟨w.heap.size, 5, none⟩ = some (.int .u64 (c 5)) := by rw [hSw.cell, csA_5, dq]
    clear hSw
    go_simp
    try with_reducible rfl
  try simp only [List.getElem_toArray, List.getElem_cons_succ, List.getElem_cons_zero, Act.put, List.setIfInBounds_toArray, List.set_cons_zero, List.set_cons_succ]
  refine wpAnyH_ready (rs := [5]) (by kernel_rfl) (by simp) ?_
  refine AllReadyH.cons rfl (fun K hK => ?_) AllReadyH.nil
  go_simp
  go_at_call 28
  refine (place_c (c 5) k false v0 v1 k0 k1 _).mono ?_
  rintro e w' ⟨rfl, rfl⟩
  go_wp2_with fail
  refine hK.out _ _ (by assumption) (fun hHeld => ?_)
  clear hK K
  try simp only [List.getElem_toArray, List.getElem_cons_succ, List.getElem_cons_zero, Act.put, List.setIfInBounds_toArray, List.set_cons_zero, List.set_cons_succ]
  refine wpAnyH_ready (rs := [6]) (by kernel_rfl) (by simp) ?_
  refine AllReadyH.cons rfl (fun K hK => ?_) AllReadyH.nil
  rw [if_pos (by rfl)]
  refine wp_store_row 24 (.tmp 12) (.tmp 89) rfl (w.heap.size + 1) (csA d) (by rfl) (by rfl) _ _ kz csInfo rfl (csA_one d) ?_
  have kl := kz.setRow (cs := csA d)
  have gl := (g3.drew1).setRow (b := w.heap.size + 1) (Nat.le_succ_of_le hgs) (csA d)
  have hl := (Blk.otherRow (g := w.heap.size + 1) (new := csA d) hHeld (by omega))
  refine hK.out _ _ hl (fun hHeld => ?_)
  clear hK K hl
  try simp only [List.getElem_toArray, List.getElem_cons_succ, List.getElem_cons_zero, Act.put, List.setIfInBounds_toArray, List.set_cons_zero, List.set_cons_succ]
  refine wpAnyH_take (i := 7) (v := ?_) rfl (by kernel_rfl) (by kernel_rfl) (by kernel_rfl) (fun _ _ _ h => h) (Or.inl ⟨by rfl, ?_⟩) (by assumption) ?_
  rotate_left
  · intro wx hSw
    have hSc : wx.cell? ⟨w.heap.size, 5, none⟩ = some (.int .u64 (c 5)) := by rw [hSw.cell, csA_5, dq]
    clear hSw
    go_simp
    try with_reducible rfl
  try simp only [List.getElem_toArray, List.getElem_cons_succ, List.getElem_cons_zero, Act.put, List.setIfInBounds_toArray, List.set_cons_zero, List.set_cons_succ]
  refine wpAnyH_take (i := 8) (v := ?_) rfl (by kernel_rfl) (by kernel_rfl) (by kernel_rfl) (fun _ _ _ h => h) (Or.inl ⟨by rfl, ?_⟩) (by assumption) ?_
  rotate_left
  · intro wx hSw
    have hSc : wx.cell? ⟨w.heap.size, 5, none⟩ = some (.int .u64 (c 5)) := by rw [hSw.cell, csA_5, dq]
    clear hSw
    go_simp
    try with_reducible rfl
  try simp only [List.getElem_toArray, List.getElem_cons_succ, List.getElem_cons_zero, Act.put, List.setIfInBounds_toArray, List.set_cons_zero, List.set_cons_succ]
  refine wpAnyH_done (by kernel_rfl) ?_ _
  try simp only [List.getElem_toArray, List.getElem_cons_succ, List.getElem_cons_zero, Act.put, List.setIfInBounds_toArray, List.set_cons_zero, List.set_cons_succ]
  go_wp2_with fail
  exact bodyPost_ret (v := .tuple #[csV d, .int .i64 3, .int .u64 (placeV (c 5) k false)]) (results_cs3 (p := 12) (q := 13) (r := 14) Tryd.results11 _ _ (w.heap.size + 1) kl rfl) rfl ⟨by rw [HD.out], gl⟩

set_option maxRecDepth 100000 in
set_option maxHeartbeats 2000000 in
theorem ent_m_low (c : Nat → Int) (s dl k b : Nat) (p pc cause tval y : Int) (hs : s < 2 ^ 64) (c0 : c 0 = (s : Int)) (hd : dl < 2 ^ 64) (cd : c 1 = (dl : Int)) (hk : IntKind.u64.wrap cause = (k : Int)) (hk1 : k < 2 ^ 64) (hb : b < 4) (hp : IntKind.u64.wrap p % 4 = (b : Int)) (hy : whyV k false = y)
    (v0 : 0 ≤ c 5) (v1 : c 5 < 18446744073709551616) (p1 : decide (p ≤ 1) = true) (pd : (((bitN dl (k % 64) : Nat) : Int) == 1) = false) (m : Nat) (hm2 : m = b * 2048) (q2 : ((b : Int) == 2) = false) {W w : World} (hg : Grew W w) :
    Calls Tryd.prog 11 #[csV c, .int .i64 p, .int .u64 pc, .int .i64 cause, .bool false, .int .u64 tval] w fun e w' => e = .returned (.tuple #[csV (upd (upd (upd (upd c 8 (y)) 7 (bits .andNot .u64 pc 1)) 9 (tval)) 0 ((ndn (setN (setN s 7 (bitN s 3)) 3 0) 6144 ||| m : Nat) : Int)), .int .i64 3, .int .u64 (placeV (c 5) k false)]) ∧ Grew W w' := by
  have hgs := hg.size
  have HS := Lib.hid hs
  have HDL := Lib.hid hd
  have k0 : 0 ≤ (k : Int) := Int.natCast_nonneg _
  have k1 : (k : Int) < 18446744073709551616 := by omega
  have s1 := setN_lt s 7 _ hs (by decide) (bitN_lt s 3)
  have s2 := setN_lt _ 3 0 s1 (by decide) (by decide)
  have S1 := Lib.hid s1
  have S2 := Lib.hid s2
  have HB := Lib.hid hb
  have F1 := Lib.hid (l_not _ s2 6144 (by decide) 6144 rfl)
  have F2 := Lib.hid (l_or _ (ndn_lt _ 6144 s2) (m) (by omega) ((m : Int)) rfl)
  have F3 := Lib.hid (show IntKind.u64.wrap ((b : Int) * 2048) = (m : Int) by rw [hm2, IntWalk.u64_in _ (by omega)]; simp)
  clear hm2
  have hm : ((k % 64 : Nat) : Int) = (k : Int) % 64 := by omega
  have HM := Lib.hid hm
  have hml := Lib.hid (show k % 64 < 64 by omega)
  clear hs hd hk1 s1 s2 hb hm
  simp only [whyV, Bool.false_eq_true, if_false] at hy
  subst hy
  obtain ⟨r, hr⟩ : ∃ r, IntKind.u64.wrap p = r := ⟨_, rfl⟩
  have r0 : 0 ≤ r := by rw [← hr, wrap_u64]; omega
  have r1 : r < 18446744073709551616 := by rw [← hr, wrap_u64]; omega
  rw [hr] at hp
  go_enter Tryd.func11, Tryd.ntmps11
  go_upto_region 1 with fail
  refine wp_gen2 hg ?_
  intro w1 kb kz g1
  change Blk w1 (w.heap.size + 1) (csA fun _ => 0) 24 at kz
  have y1 : w1.cell? ⟨w.heap.size, 1, none⟩ = some (.int .u64 (c 1)) := by rw [kb.cell, csA_1]
  have y2 : w1.cell? ⟨w.heap.size, 2, none⟩ = some (.int .u64 (c 2)) := by rw [kb.cell, csA_2]
  have ya : w1.cell? ⟨w.heap.size, 8, none⟩ = some (.int .u64 (c 8)) := by rw [kb.cell, csA_8]
  have yb : w1.cell? ⟨w.heap.size, 7, none⟩ = some (.int .u64 (c 7)) := by rw [kb.cell, csA_7]
  have yc : w1.cell? ⟨w.heap.size, 9, none⟩ = some (.int .u64 (c 9)) := by rw [kb.cell, csA_9]
  have fa := kb.free 8
  have fb := kb.free 7
  have fc := kb.free 9
  go_upto_region 15 with (go_at_call 26; refine (bit_l dl HDL.out (k % 64) _ HM.out.symm hml.out _).mono ?_; rintro e w2 ⟨rfl, rfl⟩)
  have k2 : Blk (World.setCell (World.setCell (World.setCell w1 ⟨w.heap.size, 8, none⟩ (.int .u64 ((k : Int)))) ⟨w.heap.size, 7, none⟩ (.int .u64 (bits .andNot .u64 pc 1))) ⟨w.heap.size, 9, none⟩ (.int .u64 (tval))) w.heap.size (csA (upd (upd (upd c 8 ((k : Int))) 7 (bits .andNot .u64 pc 1)) 9 (tval))) 24 := by
    have := ((kb.set (o := 8) (.int .u64 ((k : Int)))).set (o := 7) (.int .u64 (bits .andNot .u64 pc 1))).set (o := 9) (.int .u64 (tval))
    rw [csU_8, csU_7, csU_9] at this
    exact this
  have z2 := ((kz.other (o := 8) (c := w.heap.size) (by omega) (.int .u64 ((k : Int)))).other (o := 7) (c := w.heap.size) (by omega) (.int .u64 (bits .andNot .u64 pc 1))).other (o := 9) (c := w.heap.size) (by omega) (.int .u64 (tval))
  have g2 : Grew W (World.setCell (World.setCell (World.setCell w1 ⟨w.heap.size, 8, none⟩ (.int .u64 ((k : Int)))) ⟨w.heap.size, 7, none⟩ (.int .u64 (bits .andNot .u64 pc 1))) ⟨w.heap.size, 9, none⟩ (.int .u64 (tval))) := (((g1.setCell hgs _).setCell hgs _).setCell hgs _)
  clear y1 y2 ya yb yc fa fb fc
  have y0 : ((World.setCell (World.setCell (World.setCell w1 ⟨w.heap.size, 8, none⟩ (.int .u64 ((k : Int)))) ⟨w.heap.size, 7, none⟩ (.int .u64 (bits .andNot .u64 pc 1))) ⟨w.heap.size, 9, none⟩ (.int .u64 (tval)))).cell? ⟨w.heap.size, 0, none⟩ = some (.int .u64 (s : Nat)) := by rw [k2.cell, csA_0]; show some (Value.int .u64 (c 0)) = _; rw [c0]
  have f0 := k2.free 0
  generalize (World.setCell (World.setCell (World.setCell w1 ⟨w.heap.size, 8, none⟩ (.int .u64 ((k : Int)))) ⟨w.heap.size, 7, none⟩ (.int .u64 (bits .andNot .u64 pc 1))) ⟨w.heap.size, 9, none⟩ (.int .u64 (tval))) = w2 at *
  have E1 := F1.out
  have E2 := F2.out
  have E3 := F3.out
  refine region_quiet_tail 12 (by kernel_rfl) (by kernel_rfl) ?_
  simp only [List.take_succ_cons, List.take_zero, List.drop_succ_cons, List.drop_zero]
  repeat (first
    | go_big_quiet_step ((first | (go_at_call 26; with_reducible exact quiet_eq (bit_l s HS.out 3 3 rfl (by decide) _)) | (go_at_call 27; with_reducible exact quiet_eq (set_l s HS.out 7 7 rfl (by decide) (bitN s 3) ((bitN s 3 : Nat) : Int) rfl (bitN_lt _ _) _)) | (go_at_call 27; with_reducible exact quiet_eq (set_l _ S1.out 3 3 rfl (by decide) 0 0 rfl (by decide) _))))
    | quiet_step ((first | (go_at_call 26; with_reducible exact quiet_eq (bit_l s HS.out 3 3 rfl (by decide) _)) | (go_at_call 27; with_reducible exact quiet_eq (set_l s HS.out 7 7 rfl (by decide) (bitN s 3) ((bitN s 3 : Nat) : Int) rfl (bitN_lt _ _) _)) | (go_at_call 27; with_reducible exact quiet_eq (set_l _ S1.out 3 3 rfl (by decide) 0 0 rfl (by decide) _)))))
  refine wpQuiet_nil ?_
  intro nq
  go_upto_region 16 with fail
  have k3 : Blk (World.setCell (w2.drewN nq) ⟨w.heap.size, 0, none⟩ (.int .u64 (((ndn (setN (setN s 7 (bitN s 3)) 3 0) 6144 ||| m : Nat) : Int)))) w.heap.size (csA (upd (upd (upd (upd c 8 ((k : Int))) 7 (bits .andNot .u64 pc 1)) 9 (tval)) 0 ((ndn (setN (setN s 7 (bitN s 3)) 3 0) 6144 ||| m : Nat) : Int))) 24 := by
    have := (k2.drewN nq).set (o := 0) (.int .u64 (((ndn (setN (setN s 7 (bitN s 3)) 3 0) 6144 ||| m : Nat) : Int)))
    rw [csU_0] at this
    exact this
  have z3 := (z2.drewN nq).other (o := 0) (c := w.heap.size) (by omega) (.int .u64 (((ndn (setN (setN s 7 (bitN s 3)) 3 0) 6144 ||| m : Nat) : Int)))
  have g3 : Grew W (World.setCell (w2.drewN nq) ⟨w.heap.size, 0, none⟩ (.int .u64 (((ndn (setN (setN s 7 (bitN s 3)) 3 0) 6144 ||| m : Nat) : Int)))) := (g2.drewN nq).setCell hgs _
  clear y0 f0
  generalize World.setCell (w2.drewN nq) ⟨w.heap.size, 0, none⟩ (.int .u64 (((ndn (setN (setN s 7 (bitN s 3)) 3 0) 6144 ||| m : Nat) : Int))) = w3 at *
  obtain ⟨d, hd⟩ : ∃ d, d = upd (upd (upd (upd c 8 ((k : Int))) 7 (bits .andNot .u64 pc 1)) 9 (tval)) 0 ((ndn (setN (setN s 7 (bitN s 3)) 3 0) 6144 ||| m : Nat) : Int) := ⟨_, rfl⟩
  have dq : d 5 = c 5 := by rw [hd]; rfl
  rw [← hd] at k3
  have HD := Lib.hid hd
  clear hd
  have kz := z3.drew
  refine wp_region_held_drew (S := fun w' => Blk w' w.heap.size (csA d) 24) (by kernel_rfl) (k3.drew) (fun hHeld => ?_)
  refine wpAnyH_take (i := 0) (v := csV d) rfl (by kernel_rfl) (by kernel_rfl) (by kernel_rfl) (fun _ _ _ h => h) (yl_cs rfl (by rfl) (by rfl) fun _ h => h) (by assumption) ?_
  try simp only [List.getElem_toArray, List.getElem_cons_succ, List.getElem_cons_zero, Act.put, List.setIfInBounds_toArray, List.set_cons_zero, List.set_cons_succ]
  refine wpAnyH_take (i := 1) (v := ?_) rfl (by kernel_rfl) (by kernel_rfl) (by kernel_rfl) (fun _ _ _ h => h) (Or.inl ⟨by rfl, ?_⟩) (by assumption) ?_
  rotate_left
  · intro wx hSw
    have hSc : wx.cell? ⟨w.heap.size, 5, none⟩ = some (.int .u64 (c 5)) := by rw [hSw.cell, csA_5, dq]
    clear hSw
    go_simp
    try with_reducible rfl
  try simp only [List.getElem_toArray, List.getElem_cons_succ, List.getElem_cons_zero, Act.put, List.setIfInBounds_toArray, List.set_cons_zero, List.set_cons_succ]
  refine wpAnyH_take (i := 2) (v := ?_) rfl (by kernel_rfl) (by kernel_rfl) (by kernel_rfl) (fun _ _ _ h => h) (Or.inl ⟨by rfl, ?_⟩) (by assumption) ?_
  rotate_left
  · intro wx hSw
    have hSc : wx.cell? ⟨w.heap.size, 5, none⟩ = some (.int .u64 (c 5)) := by rw [hSw.cell, csA_5, dq]
    clear hSw
    go_simp
    try with_reducible rfl
  try simp only [List.getElem_toArray, List.getElem_cons_succ, List.getElem_cons_zero, Act.put, List.setIfInBounds_toArray, List.set_cons_zero, List.set_cons_succ]
  refine wpAnyH_take (i := 3) (v := ?_) rfl (by kernel_rfl) (by kernel_rfl) (by kernel_rfl) (fun _ _ _ h => h) (Or.inl ⟨by rfl, ?_⟩) (by assumption) ?_
  rotate_left
  · intro wx hSw
    have hSc : wx.cell? ⟨w.heap.size, 5, none⟩ = some (.int .u64 (c 5)) := by rw [hSw.cell, csA_5, dq]
    clear hSw
    go_simp
    try with_reducible rfl
  try simp only [List.getElem_toArray, List.getElem_cons_succ, List.getElem_cons_zero, Act.put, List.setIfInBounds_toArray, List.set_cons_zero, List.set_cons_succ]
  refine wpAnyH_take (i := 4) (v := ?_) rfl (by kernel_rfl) (by kernel_rfl) (by kernel_rfl) (fun _ _ _ h => h) (Or.inl ⟨by rfl, ?_⟩) (by assumption) ?_
  rotate_left
  · intro wx hSw
    have hSc : wx.cell? ⟨w.heap.size, 5, none⟩ = some (.int .u64 (c 5)) := by rw [hSw.cell, csA_5, dq]
    clear hSw
    go_simp
    try with_reducible rfl
  try simp only [List.getElem_toArray, List.getElem_cons_succ, List.getElem_cons_zero, Act.put, List.setIfInBounds_toArray, List.set_cons_zero, List.set_cons_succ]
  refine wpAnyH_ready (rs := [5]) (by kernel_rfl) (by simp) ?_
  refine AllReadyH.cons rfl (fun K hK => ?_) AllReadyH.nil
  go_simp
  go_at_call 28
  refine (place_c (c 5) k false v0 v1 k0 k1 _).mono ?_
  rintro e w' ⟨rfl, rfl⟩
  go_wp2_with fail
  refine hK.out _ _ (by assumption) (fun hHeld => ?_)
  clear hK K
  try simp only [List.getElem_toArray, List.getElem_cons_succ, List.getElem_cons_zero, Act.put, List.setIfInBounds_toArray, List.set_cons_zero, List.set_cons_succ]
  refine wpAnyH_ready (rs := [6]) (by kernel_rfl) (by simp) ?_
  refine AllReadyH.cons rfl (fun K hK => ?_) AllReadyH.nil
  rw [if_pos (by rfl)]
  refine wp_store_row 24 (.tmp 12) (.tmp 89) rfl (w.heap.size + 1) (csA d) (by rfl) (by rfl) _ _ kz csInfo rfl (csA_one d) ?_
  have kl := kz.setRow (cs := csA d)
  have gl := (g3.drew1).setRow (b := w.heap.size + 1) (Nat.le_succ_of_le hgs) (csA d)
  have hl := (Blk.otherRow (g := w.heap.size + 1) (new := csA d) hHeld (by omega))
  refine hK.out _ _ hl (fun hHeld => ?_)
  clear hK K hl
  try simp only [List.getElem_toArray, List.getElem_cons_succ, List.getElem_cons_zero, Act.put, List.setIfInBounds_toArray, List.set_cons_zero, List.set_cons_succ]
  refine wpAnyH_take (i := 7) (v := ?_) rfl (by kernel_rfl) (by kernel_rfl) (by kernel_rfl) (fun _ _ _ h => h) (Or.inl ⟨by rfl, ?_⟩) (by assumption) ?_
  rotate_left
  · intro wx hSw
    have hSc : wx.cell? ⟨w.heap.size, 5, none⟩ = some (.int .u64 (c 5)) := by rw [hSw.cell, csA_5, dq]
    clear hSw
    go_simp
    try with_reducible rfl
  try simp only [List.getElem_toArray, List.getElem_cons_succ, List.getElem_cons_zero, Act.put, List.setIfInBounds_toArray, List.set_cons_zero, List.set_cons_succ]
  refine wpAnyH_take (i := 8) (v := ?_) rfl (by kernel_rfl) (by kernel_rfl) (by kernel_rfl) (fun _ _ _ h => h) (Or.inl ⟨by rfl, ?_⟩) (by assumption) ?_
  rotate_left
  · intro wx hSw
    have hSc : wx.cell? ⟨w.heap.size, 5, none⟩ = some (.int .u64 (c 5)) := by rw [hSw.cell, csA_5, dq]
    clear hSw
    go_simp
    try with_reducible rfl
  try simp only [List.getElem_toArray, List.getElem_cons_succ, List.getElem_cons_zero, Act.put, List.setIfInBounds_toArray, List.set_cons_zero, List.set_cons_succ]
  refine wpAnyH_done (by kernel_rfl) ?_ _
  try simp only [List.getElem_toArray, List.getElem_cons_succ, List.getElem_cons_zero, Act.put, List.setIfInBounds_toArray, List.set_cons_zero, List.set_cons_succ]
  go_wp2_with fail
  exact bodyPost_ret (v := .tuple #[csV d, .int .i64 3, .int .u64 (placeV (c 5) k false)]) (results_cs3 (p := 12) (q := 13) (r := 14) Tryd.results11 _ _ (w.heap.size + 1) kl rfl) rfl ⟨by rw [HD.out], gl⟩

set_option maxRecDepth 100000 in
set_option maxHeartbeats 2000000 in
theorem ent_m_two (c : Nat → Int) (s dl k b : Nat) (p pc cause tval y : Int) (hs : s < 2 ^ 64) (c0 : c 0 = (s : Int)) (hd : dl < 2 ^ 64) (cd : c 1 = (dl : Int)) (hk : IntKind.u64.wrap cause = (k : Int)) (hk1 : k < 2 ^ 64) (hb : b < 4) (hp : IntKind.u64.wrap p % 4 = (b : Int)) (hy : whyV k false = y)
    (v0 : 0 ≤ c 5) (v1 : c 5 < 18446744073709551616) (p1 : decide (p ≤ 1) = false) (m : Nat) (hm2 : m = b * 2048) (q2 : ((b : Int) == 2) = true) {W w : World} (hg : Grew W w) :
    Calls Tryd.prog 11 #[csV c, .int .i64 p, .int .u64 pc, .int .i64 cause, .bool false, .int .u64 tval] w fun e w' => e = .returned (.tuple #[csV (upd (upd (upd (upd c 8 (y)) 7 (bits .andNot .u64 pc 1)) 9 (tval)) 0 ((ndn (setN (setN s 7 (bitN s 3)) 3 0) 6144 : Nat) : Int)), .int .i64 3, .int .u64 (placeV (c 5) k false)]) ∧ Grew W w' := by
  have hgs := hg.size
  have HS := Lib.hid hs
  have HDL := Lib.hid hd
  have k0 : 0 ≤ (k : Int) := Int.natCast_nonneg _
  have k1 : (k : Int) < 18446744073709551616 := by omega
  have s1 := setN_lt s 7 _ hs (by decide) (bitN_lt s 3)
  have s2 := setN_lt _ 3 0 s1 (by decide) (by decide)
  have S1 := Lib.hid s1
  have S2 := Lib.hid s2
  have HB := Lib.hid hb
  have F1 := Lib.hid (l_not _ s2 6144 (by decide) 6144 rfl)
  have F2 := Lib.hid (l_or _ (ndn_lt _ 6144 s2) (0) (by omega) (0) rfl)
  have F3 := Lib.hid (show IntKind.u64.wrap ((b : Int) * 2048) = (m : Int) by rw [hm2, IntWalk.u64_in _ (by omega)]; simp)
  clear hm2
  have hm : ((k % 64 : Nat) : Int) = (k : Int) % 64 := by omega
  have HM := Lib.hid hm
  have hml := Lib.hid (show k % 64 < 64 by omega)
  clear hs hd hk1 s1 s2 hb hm
  simp only [whyV, Bool.false_eq_true, if_false] at hy
  subst hy
  obtain ⟨r, hr⟩ : ∃ r, IntKind.u64.wrap p = r := ⟨_, rfl⟩
  have r0 : 0 ≤ r := by rw [← hr, wrap_u64]; omega
  have r1 : r < 18446744073709551616 := by rw [← hr, wrap_u64]; omega
  rw [hr] at hp
  go_enter Tryd.func11, Tryd.ntmps11
  go_upto_region 1 with fail
  refine wp_gen2 hg ?_
  intro w1 kb kz g1
  change Blk w1 (w.heap.size + 1) (csA fun _ => 0) 24 at kz
  have y1 : w1.cell? ⟨w.heap.size, 1, none⟩ = some (.int .u64 (c 1)) := by rw [kb.cell, csA_1]
  have y2 : w1.cell? ⟨w.heap.size, 2, none⟩ = some (.int .u64 (c 2)) := by rw [kb.cell, csA_2]
  have ya : w1.cell? ⟨w.heap.size, 8, none⟩ = some (.int .u64 (c 8)) := by rw [kb.cell, csA_8]
  have yb : w1.cell? ⟨w.heap.size, 7, none⟩ = some (.int .u64 (c 7)) := by rw [kb.cell, csA_7]
  have yc : w1.cell? ⟨w.heap.size, 9, none⟩ = some (.int .u64 (c 9)) := by rw [kb.cell, csA_9]
  have fa := kb.free 8
  have fb := kb.free 7
  have fc := kb.free 9
  go_upto_region 15 with (go_at_call 26; refine (bit_l dl HDL.out (k % 64) _ HM.out.symm hml.out _).mono ?_; rintro e w2 ⟨rfl, rfl⟩)
  have k2 : Blk (World.setCell (World.setCell (World.setCell w1 ⟨w.heap.size, 8, none⟩ (.int .u64 ((k : Int)))) ⟨w.heap.size, 7, none⟩ (.int .u64 (bits .andNot .u64 pc 1))) ⟨w.heap.size, 9, none⟩ (.int .u64 (tval))) w.heap.size (csA (upd (upd (upd c 8 ((k : Int))) 7 (bits .andNot .u64 pc 1)) 9 (tval))) 24 := by
    have := ((kb.set (o := 8) (.int .u64 ((k : Int)))).set (o := 7) (.int .u64 (bits .andNot .u64 pc 1))).set (o := 9) (.int .u64 (tval))
    rw [csU_8, csU_7, csU_9] at this
    exact this
  have z2 := ((kz.other (o := 8) (c := w.heap.size) (by omega) (.int .u64 ((k : Int)))).other (o := 7) (c := w.heap.size) (by omega) (.int .u64 (bits .andNot .u64 pc 1))).other (o := 9) (c := w.heap.size) (by omega) (.int .u64 (tval))
  have g2 : Grew W (World.setCell (World.setCell (World.setCell w1 ⟨w.heap.size, 8, none⟩ (.int .u64 ((k : Int)))) ⟨w.heap.size, 7, none⟩ (.int .u64 (bits .andNot .u64 pc 1))) ⟨w.heap.size, 9, none⟩ (.int .u64 (tval))) := (((g1.setCell hgs _).setCell hgs _).setCell hgs _)
  clear y1 y2 ya yb yc fa fb fc
  have y0 : ((World.setCell (World.setCell (World.setCell w1 ⟨w.heap.size, 8, none⟩ (.int .u64 ((k : Int)))) ⟨w.heap.size, 7, none⟩ (.int .u64 (bits .andNot .u64 pc 1))) ⟨w.heap.size, 9, none⟩ (.int .u64 (tval)))).cell? ⟨w.heap.size, 0, none⟩ = some (.int .u64 (s : Nat)) := by rw [k2.cell, csA_0]; show some (Value.int .u64 (c 0)) = _; rw [c0]
  have f0 := k2.free 0
  generalize (World.setCell (World.setCell (World.setCell w1 ⟨w.heap.size, 8, none⟩ (.int .u64 ((k : Int)))) ⟨w.heap.size, 7, none⟩ (.int .u64 (bits .andNot .u64 pc 1))) ⟨w.heap.size, 9, none⟩ (.int .u64 (tval))) = w2 at *
  have E1 := F1.out
  have E2 := F2.out
  have E3 := F3.out
  refine region_quiet_tail 12 (by kernel_rfl) (by kernel_rfl) ?_
  simp only [List.take_succ_cons, List.take_zero, List.drop_succ_cons, List.drop_zero]
  repeat (first
    | go_big_quiet_step ((first | (go_at_call 26; with_reducible exact quiet_eq (bit_l s HS.out 3 3 rfl (by decide) _)) | (go_at_call 27; with_reducible exact quiet_eq (set_l s HS.out 7 7 rfl (by decide) (bitN s 3) ((bitN s 3 : Nat) : Int) rfl (bitN_lt _ _) _)) | (go_at_call 27; with_reducible exact quiet_eq (set_l _ S1.out 3 3 rfl (by decide) 0 0 rfl (by decide) _))))
    | quiet_step ((first | (go_at_call 26; with_reducible exact quiet_eq (bit_l s HS.out 3 3 rfl (by decide) _)) | (go_at_call 27; with_reducible exact quiet_eq (set_l s HS.out 7 7 rfl (by decide) (bitN s 3) ((bitN s 3 : Nat) : Int) rfl (bitN_lt _ _) _)) | (go_at_call 27; with_reducible exact quiet_eq (set_l _ S1.out 3 3 rfl (by decide) 0 0 rfl (by decide) _)))))
  refine wpQuiet_nil ?_
  intro nq
  go_upto_region 16 with fail
  have k3 : Blk (World.setCell (w2.drewN nq) ⟨w.heap.size, 0, none⟩ (.int .u64 (((ndn (setN (setN s 7 (bitN s 3)) 3 0) 6144 : Nat) : Int)))) w.heap.size (csA (upd (upd (upd (upd c 8 ((k : Int))) 7 (bits .andNot .u64 pc 1)) 9 (tval)) 0 ((ndn (setN (setN s 7 (bitN s 3)) 3 0) 6144 : Nat) : Int))) 24 := by
    have := (k2.drewN nq).set (o := 0) (.int .u64 (((ndn (setN (setN s 7 (bitN s 3)) 3 0) 6144 : Nat) : Int)))
    rw [csU_0] at this
    exact this
  have z3 := (z2.drewN nq).other (o := 0) (c := w.heap.size) (by omega) (.int .u64 (((ndn (setN (setN s 7 (bitN s 3)) 3 0) 6144 : Nat) : Int)))
  have g3 : Grew W (World.setCell (w2.drewN nq) ⟨w.heap.size, 0, none⟩ (.int .u64 (((ndn (setN (setN s 7 (bitN s 3)) 3 0) 6144 : Nat) : Int)))) := (g2.drewN nq).setCell hgs _
  clear y0 f0
  generalize World.setCell (w2.drewN nq) ⟨w.heap.size, 0, none⟩ (.int .u64 (((ndn (setN (setN s 7 (bitN s 3)) 3 0) 6144 : Nat) : Int))) = w3 at *
  obtain ⟨d, hd⟩ : ∃ d, d = upd (upd (upd (upd c 8 ((k : Int))) 7 (bits .andNot .u64 pc 1)) 9 (tval)) 0 ((ndn (setN (setN s 7 (bitN s 3)) 3 0) 6144 : Nat) : Int) := ⟨_, rfl⟩
  have dq : d 5 = c 5 := by rw [hd]; rfl
  rw [← hd] at k3
  have HD := Lib.hid hd
  clear hd
  have kz := z3.drew
  refine wp_region_held_drew (S := fun w' => Blk w' w.heap.size (csA d) 24) (by kernel_rfl) (k3.drew) (fun hHeld => ?_)
  refine wpAnyH_take (i := 0) (v := csV d) rfl (by kernel_rfl) (by kernel_rfl) (by kernel_rfl) (fun _ _ _ h => h) (yl_cs rfl (by rfl) (by rfl) fun _ h => h) (by assumption) ?_
  try simp only [List.getElem_toArray, List.getElem_cons_succ, List.getElem_cons_zero, Act.put, List.setIfInBounds_toArray, List.set_cons_zero, List.set_cons_succ]
  refine wpAnyH_take (i := 1) (v := ?_) rfl (by kernel_rfl) (by kernel_rfl) (by kernel_rfl) (fun _ _ _ h => h) (Or.inl ⟨by rfl, ?_⟩) (by assumption) ?_
  rotate_left
  · intro wx hSw
    have hSc : wx.cell? ⟨w.heap.size, 5, none⟩ = some (.int .u64 (c 5)) := by rw [hSw.cell, csA_5, dq]
    clear hSw
    go_simp
    try with_reducible rfl
  try simp only [List.getElem_toArray, List.getElem_cons_succ, List.getElem_cons_zero, Act.put, List.setIfInBounds_toArray, List.set_cons_zero, List.set_cons_succ]
  refine wpAnyH_take (i := 2) (v := ?_) rfl (by kernel_rfl) (by kernel_rfl) (by kernel_rfl) (fun _ _ _ h => h) (Or.inl ⟨by rfl, ?_⟩) (by assumption) ?_
  rotate_left
  · intro wx hSw
    have hSc : wx.cell? ⟨w.heap.size, 5, none⟩ = some (.int .u64 (c 5)) := by rw [hSw.cell, csA_5, dq]
    clear hSw
    go_simp
    try with_reducible rfl
  try simp only [List.getElem_toArray, List.getElem_cons_succ, List.getElem_cons_zero, Act.put, List.setIfInBounds_toArray, List.set_cons_zero, List.set_cons_succ]
  refine wpAnyH_take (i := 3) (v := ?_) rfl (by kernel_rfl) (by kernel_rfl) (by kernel_rfl) (fun _ _ _ h => h) (Or.inl ⟨by rfl, ?_⟩) (by assumption) ?_
  rotate_left
  · intro wx hSw
    have hSc : wx.cell? ⟨w.heap.size, 5, none⟩ = some (.int .u64 (c 5)) := by rw [hSw.cell, csA_5, dq]
    clear hSw
    go_simp
    try with_reducible rfl
  try simp only [List.getElem_toArray, List.getElem_cons_succ, List.getElem_cons_zero, Act.put, List.setIfInBounds_toArray, List.set_cons_zero, List.set_cons_succ]
  refine wpAnyH_take (i := 4) (v := ?_) rfl (by kernel_rfl) (by kernel_rfl) (by kernel_rfl) (fun _ _ _ h => h) (Or.inl ⟨by rfl, ?_⟩) (by assumption) ?_
  rotate_left
  · intro wx hSw
    have hSc : wx.cell? ⟨w.heap.size, 5, none⟩ = some (.int .u64 (c 5)) := by rw [hSw.cell, csA_5, dq]
    clear hSw
    go_simp
    try with_reducible rfl
  try simp only [List.getElem_toArray, List.getElem_cons_succ, List.getElem_cons_zero, Act.put, List.setIfInBounds_toArray, List.set_cons_zero, List.set_cons_succ]
  refine wpAnyH_ready (rs := [5]) (by kernel_rfl) (by simp) ?_
  refine AllReadyH.cons rfl (fun K hK => ?_) AllReadyH.nil
  go_simp
  go_at_call 28
  refine (place_c (c 5) k false v0 v1 k0 k1 _).mono ?_
  rintro e w' ⟨rfl, rfl⟩
  go_wp2_with fail
  refine hK.out _ _ (by assumption) (fun hHeld => ?_)
  clear hK K
  try simp only [List.getElem_toArray, List.getElem_cons_succ, List.getElem_cons_zero, Act.put, List.setIfInBounds_toArray, List.set_cons_zero, List.set_cons_succ]
  refine wpAnyH_ready (rs := [6]) (by kernel_rfl) (by simp) ?_
  refine AllReadyH.cons rfl (fun K hK => ?_) AllReadyH.nil
  rw [if_pos (by rfl)]
  refine wp_store_row 24 (.tmp 12) (.tmp 89) rfl (w.heap.size + 1) (csA d) (by rfl) (by rfl) _ _ kz csInfo rfl (csA_one d) ?_
  have kl := kz.setRow (cs := csA d)
  have gl := (g3.drew1).setRow (b := w.heap.size + 1) (Nat.le_succ_of_le hgs) (csA d)
  have hl := (Blk.otherRow (g := w.heap.size + 1) (new := csA d) hHeld (by omega))
  refine hK.out _ _ hl (fun hHeld => ?_)
  clear hK K hl
  try simp only [List.getElem_toArray, List.getElem_cons_succ, List.getElem_cons_zero, Act.put, List.setIfInBounds_toArray, List.set_cons_zero, List.set_cons_succ]
  refine wpAnyH_take (i := 7) (v := ?_) rfl (by kernel_rfl) (by kernel_rfl) (by kernel_rfl) (fun _ _ _ h => h) (Or.inl ⟨by rfl, ?_⟩) (by assumption) ?_
  rotate_left
  · intro wx hSw
    have hSc : wx.cell? ⟨w.heap.size, 5, none⟩ = some (.int .u64 (c 5)) := by rw [hSw.cell, csA_5, dq]
    clear hSw
    go_simp
    try with_reducible rfl
  try simp only [List.getElem_toArray, List.getElem_cons_succ, List.getElem_cons_zero, Act.put, List.setIfInBounds_toArray, List.set_cons_zero, List.set_cons_succ]
  refine wpAnyH_take (i := 8) (v := ?_) rfl (by kernel_rfl) (by kernel_rfl) (by kernel_rfl) (fun _ _ _ h => h) (Or.inl ⟨by rfl, ?_⟩) (by assumption) ?_
  rotate_left
  · intro wx hSw
    have hSc : wx.cell? ⟨w.heap.size, 5, none⟩ = some (.int .u64 (c 5)) := by rw [hSw.cell, csA_5, dq]
    clear hSw
    go_simp
    try with_reducible rfl
  try simp only [List.getElem_toArray, List.getElem_cons_succ, List.getElem_cons_zero, Act.put, List.setIfInBounds_toArray, List.set_cons_zero, List.set_cons_succ]
  refine wpAnyH_done (by kernel_rfl) ?_ _
  try simp only [List.getElem_toArray, List.getElem_cons_succ, List.getElem_cons_zero, Act.put, List.setIfInBounds_toArray, List.set_cons_zero, List.set_cons_succ]
  go_wp2_with fail
  exact bodyPost_ret (v := .tuple #[csV d, .int .i64 3, .int .u64 (placeV (c 5) k false)]) (results_cs3 (p := 12) (q := 13) (r := 14) Tryd.results11 _ _ (w.heap.size + 1) kl rfl) rfl ⟨by rw [HD.out], gl⟩

set_option maxRecDepth 100000 in
set_option maxHeartbeats 2000000 in
theorem ent_m (c : Nat → Int) (s dl k b : Nat) (p pc cause tval y : Int) (hs : s < 2 ^ 64) (c0 : c 0 = (s : Int)) (hd : dl < 2 ^ 64) (cd : c 1 = (dl : Int)) (hk : IntKind.u64.wrap cause = (k : Int)) (hk1 : k < 2 ^ 64) (hb : b < 4) (hp : IntKind.u64.wrap p % 4 = (b : Int)) (hy : whyV k false = y)
    (v0 : 0 ≤ c 5) (v1 : c 5 < 18446744073709551616) (p1 : decide (p ≤ 1) = false) (m : Nat) (hm2 : m = b * 2048) (q2 : ((b : Int) == 2) = false) {W w : World} (hg : Grew W w) :
    Calls Tryd.prog 11 #[csV c, .int .i64 p, .int .u64 pc, .int .i64 cause, .bool false, .int .u64 tval] w fun e w' => e = .returned (.tuple #[csV (upd (upd (upd (upd c 8 (y)) 7 (bits .andNot .u64 pc 1)) 9 (tval)) 0 ((ndn (setN (setN s 7 (bitN s 3)) 3 0) 6144 ||| m : Nat) : Int)), .int .i64 3, .int .u64 (placeV (c 5) k false)]) ∧ Grew W w' := by
  have hgs := hg.size
  have HS := Lib.hid hs
  have HDL := Lib.hid hd
  have k0 : 0 ≤ (k : Int) := Int.natCast_nonneg _
  have k1 : (k : Int) < 18446744073709551616 := by omega
  have s1 := setN_lt s 7 _ hs (by decide) (bitN_lt s 3)
  have s2 := setN_lt _ 3 0 s1 (by decide) (by decide)
  have S1 := Lib.hid s1
  have S2 := Lib.hid s2
  have HB := Lib.hid hb
  have F1 := Lib.hid (l_not _ s2 6144 (by decide) 6144 rfl)
  have F2 := Lib.hid (l_or _ (ndn_lt _ 6144 s2) (m) (by omega) ((m : Int)) rfl)
  have F3 := Lib.hid (show IntKind.u64.wrap ((b : Int) * 2048) = (m : Int) by rw [hm2, IntWalk.u64_in _ (by omega)]; simp)
  clear hm2
  have hm : ((k % 64 : Nat) : Int) = (k : Int) % 64 := by omega
  have HM := Lib.hid hm
  have hml := Lib.hid (show k % 64 < 64 by omega)
  clear hs hd hk1 s1 s2 hb hm
  simp only [whyV, Bool.false_eq_true, if_false] at hy
  subst hy
  obtain ⟨r, hr⟩ : ∃ r, IntKind.u64.wrap p = r := ⟨_, rfl⟩
  have r0 : 0 ≤ r := by rw [← hr, wrap_u64]; omega
  have r1 : r < 18446744073709551616 := by rw [← hr, wrap_u64]; omega
  rw [hr] at hp
  go_enter Tryd.func11, Tryd.ntmps11
  go_upto_region 1 with fail
  refine wp_gen2 hg ?_
  intro w1 kb kz g1
  change Blk w1 (w.heap.size + 1) (csA fun _ => 0) 24 at kz
  have y1 : w1.cell? ⟨w.heap.size, 1, none⟩ = some (.int .u64 (c 1)) := by rw [kb.cell, csA_1]
  have y2 : w1.cell? ⟨w.heap.size, 2, none⟩ = some (.int .u64 (c 2)) := by rw [kb.cell, csA_2]
  have ya : w1.cell? ⟨w.heap.size, 8, none⟩ = some (.int .u64 (c 8)) := by rw [kb.cell, csA_8]
  have yb : w1.cell? ⟨w.heap.size, 7, none⟩ = some (.int .u64 (c 7)) := by rw [kb.cell, csA_7]
  have yc : w1.cell? ⟨w.heap.size, 9, none⟩ = some (.int .u64 (c 9)) := by rw [kb.cell, csA_9]
  have fa := kb.free 8
  have fb := kb.free 7
  have fc := kb.free 9
  go_upto_region 15 with (go_at_call 26; refine (bit_l dl HDL.out (k % 64) _ HM.out.symm hml.out _).mono ?_; rintro e w2 ⟨rfl, rfl⟩)
  have k2 : Blk (World.setCell (World.setCell (World.setCell w1 ⟨w.heap.size, 8, none⟩ (.int .u64 ((k : Int)))) ⟨w.heap.size, 7, none⟩ (.int .u64 (bits .andNot .u64 pc 1))) ⟨w.heap.size, 9, none⟩ (.int .u64 (tval))) w.heap.size (csA (upd (upd (upd c 8 ((k : Int))) 7 (bits .andNot .u64 pc 1)) 9 (tval))) 24 := by
    have := ((kb.set (o := 8) (.int .u64 ((k : Int)))).set (o := 7) (.int .u64 (bits .andNot .u64 pc 1))).set (o := 9) (.int .u64 (tval))
    rw [csU_8, csU_7, csU_9] at this
    exact this
  have z2 := ((kz.other (o := 8) (c := w.heap.size) (by omega) (.int .u64 ((k : Int)))).other (o := 7) (c := w.heap.size) (by omega) (.int .u64 (bits .andNot .u64 pc 1))).other (o := 9) (c := w.heap.size) (by omega) (.int .u64 (tval))
  have g2 : Grew W (World.setCell (World.setCell (World.setCell w1 ⟨w.heap.size, 8, none⟩ (.int .u64 ((k : Int)))) ⟨w.heap.size, 7, none⟩ (.int .u64 (bits .andNot .u64 pc 1))) ⟨w.heap.size, 9, none⟩ (.int .u64 (tval))) := (((g1.setCell hgs _).setCell hgs _).setCell hgs _)
  clear y1 y2 ya yb yc fa fb fc
  have y0 : ((World.setCell (World.setCell (World.setCell w1 ⟨w.heap.size, 8, none⟩ (.int .u64 ((k : Int)))) ⟨w.heap.size, 7, none⟩ (.int .u64 (bits .andNot .u64 pc 1))) ⟨w.heap.size, 9, none⟩ (.int .u64 (tval)))).cell? ⟨w.heap.size, 0, none⟩ = some (.int .u64 (s : Nat)) := by rw [k2.cell, csA_0]; show some (Value.int .u64 (c 0)) = _; rw [c0]
  have f0 := k2.free 0
  generalize (World.setCell (World.setCell (World.setCell w1 ⟨w.heap.size, 8, none⟩ (.int .u64 ((k : Int)))) ⟨w.heap.size, 7, none⟩ (.int .u64 (bits .andNot .u64 pc 1))) ⟨w.heap.size, 9, none⟩ (.int .u64 (tval))) = w2 at *
  have E1 := F1.out
  have E2 := F2.out
  have E3 := F3.out
  refine region_quiet_tail 12 (by kernel_rfl) (by kernel_rfl) ?_
  simp only [List.take_succ_cons, List.take_zero, List.drop_succ_cons, List.drop_zero]
  repeat (first
    | go_big_quiet_step ((first | (go_at_call 26; with_reducible exact quiet_eq (bit_l s HS.out 3 3 rfl (by decide) _)) | (go_at_call 27; with_reducible exact quiet_eq (set_l s HS.out 7 7 rfl (by decide) (bitN s 3) ((bitN s 3 : Nat) : Int) rfl (bitN_lt _ _) _)) | (go_at_call 27; with_reducible exact quiet_eq (set_l _ S1.out 3 3 rfl (by decide) 0 0 rfl (by decide) _))))
    | quiet_step ((first | (go_at_call 26; with_reducible exact quiet_eq (bit_l s HS.out 3 3 rfl (by decide) _)) | (go_at_call 27; with_reducible exact quiet_eq (set_l s HS.out 7 7 rfl (by decide) (bitN s 3) ((bitN s 3 : Nat) : Int) rfl (bitN_lt _ _) _)) | (go_at_call 27; with_reducible exact quiet_eq (set_l _ S1.out 3 3 rfl (by decide) 0 0 rfl (by decide) _)))))
  refine wpQuiet_nil ?_
  intro nq
  go_upto_region 16 with fail
  have k3 : Blk (World.setCell (w2.drewN nq) ⟨w.heap.size, 0, none⟩ (.int .u64 (((ndn (setN (setN s 7 (bitN s 3)) 3 0) 6144 ||| m : Nat) : Int)))) w.heap.size (csA (upd (upd (upd (upd c 8 ((k : Int))) 7 (bits .andNot .u64 pc 1)) 9 (tval)) 0 ((ndn (setN (setN s 7 (bitN s 3)) 3 0) 6144 ||| m : Nat) : Int))) 24 := by
    have := (k2.drewN nq).set (o := 0) (.int .u64 (((ndn (setN (setN s 7 (bitN s 3)) 3 0) 6144 ||| m : Nat) : Int)))
    rw [csU_0] at this
    exact this
  have z3 := (z2.drewN nq).other (o := 0) (c := w.heap.size) (by omega) (.int .u64 (((ndn (setN (setN s 7 (bitN s 3)) 3 0) 6144 ||| m : Nat) : Int)))
  have g3 : Grew W (World.setCell (w2.drewN nq) ⟨w.heap.size, 0, none⟩ (.int .u64 (((ndn (setN (setN s 7 (bitN s 3)) 3 0) 6144 ||| m : Nat) : Int)))) := (g2.drewN nq).setCell hgs _
  clear y0 f0
  generalize World.setCell (w2.drewN nq) ⟨w.heap.size, 0, none⟩ (.int .u64 (((ndn (setN (setN s 7 (bitN s 3)) 3 0) 6144 ||| m : Nat) : Int))) = w3 at *
  obtain ⟨d, hd⟩ : ∃ d, d = upd (upd (upd (upd c 8 ((k : Int))) 7 (bits .andNot .u64 pc 1)) 9 (tval)) 0 ((ndn (setN (setN s 7 (bitN s 3)) 3 0) 6144 ||| m : Nat) : Int) := ⟨_, rfl⟩
  have dq : d 5 = c 5 := by rw [hd]; rfl
  rw [← hd] at k3
  have HD := Lib.hid hd
  clear hd
  have kz := z3.drew
  refine wp_region_held_drew (S := fun w' => Blk w' w.heap.size (csA d) 24) (by kernel_rfl) (k3.drew) (fun hHeld => ?_)
  refine wpAnyH_take (i := 0) (v := csV d) rfl (by kernel_rfl) (by kernel_rfl) (by kernel_rfl) (fun _ _ _ h => h) (yl_cs rfl (by rfl) (by rfl) fun _ h => h) (by assumption) ?_
  try simp only [List.getElem_toArray, List.getElem_cons_succ, List.getElem_cons_zero, Act.put, List.setIfInBounds_toArray, List.set_cons_zero, List.set_cons_succ]
  refine wpAnyH_take (i := 1) (v := ?_) rfl (by kernel_rfl) (by kernel_rfl) (by kernel_rfl) (fun _ _ _ h => h) (Or.inl ⟨by rfl, ?_⟩) (by assumption) ?_
  rotate_left
  · intro wx hSw
    have hSc : wx.cell? ⟨w.heap.size, 5, none⟩ = some (.int .u64 (c 5)) := by rw [hSw.cell, csA_5, dq]
    clear hSw
    go_simp
    try with_reducible rfl
  try simp only [List.getElem_toArray, List.getElem_cons_succ, List.getElem_cons_zero, Act.put, List.setIfInBounds_toArray, List.set_cons_zero, List.set_cons_succ]
  refine wpAnyH_take (i := 2) (v := ?_) rfl (by kernel_rfl) (by kernel_rfl) (by kernel_rfl) (fun _ _ _ h => h) (Or.inl ⟨by rfl, ?_⟩) (by assumption) ?_
  rotate_left
  · intro wx hSw
    have hSc : wx.cell? ⟨w.heap.size, 5, none⟩ = some (.int .u64 (c 5)) := by rw [hSw.cell, csA_5, dq]
    clear hSw
    go_simp
    try with_reducible rfl
  try simp only [List.getElem_toArray, List.getElem_cons_succ, List.getElem_cons_zero, Act.put, List.setIfInBounds_toArray, List.set_cons_zero, List.set_cons_succ]
  refine wpAnyH_take (i := 3) (v := ?_) rfl (by kernel_rfl) (by kernel_rfl) (by kernel_rfl) (fun _ _ _ h => h) (Or.inl ⟨by rfl, ?_⟩) (by assumption) ?_
  rotate_left
  · intro wx hSw
    have hSc : wx.cell? ⟨w.heap.size, 5, none⟩ = some (.int .u64 (c 5)) := by rw [hSw.cell, csA_5, dq]
    clear hSw
    go_simp
    try with_reducible rfl
  try simp only [List.getElem_toArray, List.getElem_cons_succ, List.getElem_cons_zero, Act.put, List.setIfInBounds_toArray, List.set_cons_zero, List.set_cons_succ]
  refine wpAnyH_take (i := 4) (v := ?_) rfl (by kernel_rfl) (by kernel_rfl) (by kernel_rfl) (fun _ _ _ h => h) (Or.inl ⟨by rfl, ?_⟩) (by assumption) ?_
  rotate_left
  · intro wx hSw
    have hSc : wx.cell? ⟨w.heap.size, 5, none⟩ = some (.int .u64 (c 5)) := by rw [hSw.cell, csA_5, dq]
    clear hSw
    go_simp
    try with_reducible rfl
  try simp only [List.getElem_toArray, List.getElem_cons_succ, List.getElem_cons_zero, Act.put, List.setIfInBounds_toArray, List.set_cons_zero, List.set_cons_succ]
  refine wpAnyH_ready (rs := [5]) (by kernel_rfl) (by simp) ?_
  refine AllReadyH.cons rfl (fun K hK => ?_) AllReadyH.nil
  go_simp
  go_at_call 28
  refine (place_c (c 5) k false v0 v1 k0 k1 _).mono ?_
  rintro e w' ⟨rfl, rfl⟩
  go_wp2_with fail
  refine hK.out _ _ (by assumption) (fun hHeld => ?_)
  clear hK K
  try simp only [List.getElem_toArray, List.getElem_cons_succ, List.getElem_cons_zero, Act.put, List.setIfInBounds_toArray, List.set_cons_zero, List.set_cons_succ]
  refine wpAnyH_ready (rs := [6]) (by kernel_rfl) (by simp) ?_
  refine AllReadyH.cons rfl (fun K hK => ?_) AllReadyH.nil
  rw [if_pos (by rfl)]
  refine wp_store_row 24 (.tmp 12) (.tmp 89) rfl (w.heap.size + 1) (csA d) (by rfl) (by rfl) _ _ kz csInfo rfl (csA_one d) ?_
  have kl := kz.setRow (cs := csA d)
  have gl := (g3.drew1).setRow (b := w.heap.size + 1) (Nat.le_succ_of_le hgs) (csA d)
  have hl := (Blk.otherRow (g := w.heap.size + 1) (new := csA d) hHeld (by omega))
  refine hK.out _ _ hl (fun hHeld => ?_)
  clear hK K hl
  try simp only [List.getElem_toArray, List.getElem_cons_succ, List.getElem_cons_zero, Act.put, List.setIfInBounds_toArray, List.set_cons_zero, List.set_cons_succ]
  refine wpAnyH_take (i := 7) (v := ?_) rfl (by kernel_rfl) (by kernel_rfl) (by kernel_rfl) (fun _ _ _ h => h) (Or.inl ⟨by rfl, ?_⟩) (by assumption) ?_
  rotate_left
  · intro wx hSw
    have hSc : wx.cell? ⟨w.heap.size, 5, none⟩ = some (.int .u64 (c 5)) := by rw [hSw.cell, csA_5, dq]
    clear hSw
    go_simp
    try with_reducible rfl
  try simp only [List.getElem_toArray, List.getElem_cons_succ, List.getElem_cons_zero, Act.put, List.setIfInBounds_toArray, List.set_cons_zero, List.set_cons_succ]
  refine wpAnyH_take (i := 8) (v := ?_) rfl (by kernel_rfl) (by kernel_rfl) (by kernel_rfl) (fun _ _ _ h => h) (Or.inl ⟨by rfl, ?_⟩) (by assumption) ?_
  rotate_left
  · intro wx hSw
    have hSc : wx.cell? ⟨w.heap.size, 5, none⟩ = some (.int .u64 (c 5)) := by rw [hSw.cell, csA_5, dq]
    clear hSw
    go_simp
    try with_reducible rfl
  try simp only [List.getElem_toArray, List.getElem_cons_succ, List.getElem_cons_zero, Act.put, List.setIfInBounds_toArray, List.set_cons_zero, List.set_cons_succ]
  refine wpAnyH_done (by kernel_rfl) ?_ _
  try simp only [List.getElem_toArray, List.getElem_cons_succ, List.getElem_cons_zero, Act.put, List.setIfInBounds_toArray, List.set_cons_zero, List.set_cons_succ]
  go_wp2_with fail
  exact bodyPost_ret (v := .tuple #[csV d, .int .i64 3, .int .u64 (placeV (c 5) k false)]) (results_cs3 (p := 12) (q := 13) (r := 14) Tryd.results11 _ _ (w.heap.size + 1) kl rfl) rfl ⟨by rw [HD.out], gl⟩

end Go.Proofs.YtbkbbcfhmjodlaaDoor
