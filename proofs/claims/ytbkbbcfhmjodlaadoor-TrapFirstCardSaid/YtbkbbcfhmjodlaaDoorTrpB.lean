/-
  Package trap: which parts there are; enter, leave.
-/
import Derived.Test.YtbkbbcfhmjodlaaDoorTrpA
set_option linter.unusedVariables false
set_option linter.unusedSimpArgs false
namespace Go.Proofs.YtbkbbcfhmjodlaaDoor
open Go.RowKit

theorem machine_c {W w : World} (hg : Grew W w) : Calls Tryd.prog 18 #[] w fun e w' => e = .returned (partsV 3 7 11 3) ∧ Grew W w' := by
  have hgs := hg.size
  go_enter Tryd.func18, Tryd.ntmps18
  go_wp2_with fail
  go_returns
  exact ⟨rfl, by repeat (first | exact hg | refine Grew.setCell ?_ (by simpa using hgs) _ | refine Grew.alloc ?_ _)⟩
theorem supervisor_c {W w : World} (hg : Grew W w) : Calls Tryd.prog 21 #[] w fun e w' => e = .returned (partsV 1 5 8 1) ∧ Grew W w' := by
  have hgs := hg.size
  go_enter Tryd.func21, Tryd.ntmps21
  go_wp2_with fail
  go_returns
  exact ⟨rfl, by repeat (first | exact hg | refine Grew.setCell ?_ (by simpa using hgs) _ | refine Grew.alloc ?_ _)⟩
theorem asFrom_c {W w : World} (hg : Grew W w) : Calls Tryd.prog 35 #[] w fun e w' => e = .returned (partV 17 1) ∧ Grew W w' := by
  have hgs := hg.size
  go_enter Tryd.func35, Tryd.ntmps35
  go_wp2_with fail
  go_returns
  exact ⟨rfl, by repeat (first | exact hg | refine Grew.setCell ?_ (by simpa using hgs) _ | refine Grew.alloc ?_ _)⟩
theorem open_c (a b c m s : Nat) (ha : a < 64) (hs : s < 2 ^ 64) {W w : World} (hg : Grew W w) :
    Calls Tryd.prog 19 #[partsV a b c m, .int .u64 (s : Nat)] w fun e w' => e = .returned (.bool (((ofP s a 1 : Nat) : Int) == 1)) ∧ Grew W w' := by
  have hgs := hg.size
  have HA := Lib.hid ha
  have HS := Lib.hid hs
  clear ha hs
  go_enter Tryd.func19, Tryd.ntmps19
  go_wp2_with (go_at_call 32; refine (of_c s a 1 HS.out HA.out (by decide) (hg.alloc _)).mono ?_; rintro e w2 ⟨rfl, g2⟩)
  go_ret
  exact ⟨rfl, g2⟩

theorem wp_gen3 {P : Program} {code : Code} {Q : Exit → Act → World → Prop} {a : Act} {W w : World} {c1 c2 c3 : Array Value} {T1 T2 T3 : TypeId} (hg : Grew W w)
    (h : ∀ w1, Blk w1 w.heap.size c1 T1 → Blk w1 (w.heap.size + 1) c2 T2 → Blk w1 (w.heap.size + 2) c3 T3 → Grew W w1 → code.wp P Q a w1) : code.wp P Q a (((w.alloc (.cells c1 T1)).alloc (.cells c2 T2)).alloc (.cells c3 T3)) :=
  h _ ((Blk.new2 w c1 T1 _).alloc _) ((Blk.new2b w _ c2 T2).alloc _) (Blk.new _ c3 T3 _ (by simp)) (((hg.alloc _).alloc _).alloc _)
set_option maxRecDepth 100000 in
theorem enter_c (a b c m s : Nat) (p : Int) (ha : a < 64) (hb : b < 64) (hc : c < 64) (hm : m < 4) (hmc : m * 2 ^ c < 2 ^ 64) (hs : s < 2 ^ 64) {W w : World} (hg : Grew W w) :
    Calls Tryd.prog 23 #[partsV a b c m, .int .u64 (s : Nat), .int .i64 p] w fun e w' =>
      e = .returned (.int .u64 (setP (setP (setP s b 1 (ofP s a 1)) a 1 0) c m (whN p) : Nat)) ∧ Grew W w' := by
  have hgs := hg.size
  have H := Lib.hid (And.intro ha (And.intro hb (And.intro hc (And.intro hm (And.intro hmc hs)))))
  clear ha hb hc hm hmc hs
  go_enter Tryd.func23, Tryd.ntmps23
  go_upto_region 2 with (go_at_call 33; refine (setter_c _ _).mono ?_; rintro e w2 ⟨rfl, rfl⟩)
  refine wp_gen3 hg ?_
  intro w1 kb ks kq g1
  have y0 := fun z : Over w1 => kb.overCell 0 _ rfl z
  have y1 := fun z : Over w1 => kb.overCell 1 _ rfl z
  have y2 := fun z : Over w1 => kb.overCell 2 _ rfl z
  have y3 := fun z : Over w1 => kb.overCell 3 _ rfl z
  have ys := fun z : Over w1 => ks.overCell 0 _ rfl z
  go_wp2_with fail
  refine region_over_tail 7 (by kernel_rfl) (by kernel_rfl) ?_
  simp only [List.take_succ_cons, List.take_zero, List.drop_succ_cons, List.drop_zero]
  repeat (first | go_big_quiet_step ((go_at_call 32; with_reducible exact over_eq (of_c s a 1 H.out.2.2.2.2.2 H.out.1 (by decide) (Over.g _)))) | quiet_step ((go_at_call 32; with_reducible exact over_eq (of_c s a 1 H.out.2.2.2.2.2 H.out.1 (by decide) (Over.g _)))))
  refine wpQuiet_nil ?_
  intro z
  obtain ⟨ha, hb, hc, hm, hmc, hs⟩ := H.out
  have hs1 := setP_lt s b 1 (ofP s a 1) hs (one_lt hb)
  have hs2 := setP_lt _ a 1 0 hs1 (one_lt ha)
  go_upto_region 3 with (go_at_call 36; refine (set_p s b 1 (ofP s a 1) (w.heap.size + 1) (w.heap.size + 2) hs hb (one_lt hb) (ofP_lt _ _ _ hs) (g1.trans z.g) (by omega) (kq.over z) (ks.over z)).mono ?_; rintro e w2 ⟨rfl, g2, ks2, sz2, keep2⟩)
  have kb2 := keep2 _ _ _ (by omega) (kb.over z)
  have kq2 := keep2 _ _ _ (by omega) (kq.over z)
  have x0 : w2.cell? ⟨w.heap.size, 0, none⟩ = some (.int .i64 (a : Nat)) := by rw [kb2.cell]; rfl
  have x1 : w2.cell? ⟨w.heap.size, 1, none⟩ = some (.int .u64 1) := by rw [kb2.cell]; rfl
  clear keep2 y0 y1 y2 y3 ys
  go_upto_region 4 with (go_at_call 36; refine (set_p _ a 1 0 (w.heap.size + 1) (w.heap.size + 2) hs1 ha (one_lt ha) (by decide) g2 (by omega) kq2 ks2).mono ?_; rintro e w3 ⟨rfl, g3, ks3, sz3, keep3⟩)
  have kb3 := keep3 _ _ _ (by omega) kb2
  have kq3 := keep3 _ _ _ (by omega) kq2
  have y4 := fun z : Over w3 => kb3.overCell 4 _ rfl z
  have y5 := fun z : Over w3 => kb3.overCell 5 _ rfl z
  clear keep3 x0 x1
  refine region_over_tail 5 (by kernel_rfl) (by kernel_rfl) ?_
  simp only [List.take_succ_cons, List.take_zero, List.drop_succ_cons, List.drop_zero]
  repeat (first | go_big_quiet_step ((go_at_call 34; with_reducible exact over_same (whence_c p _))) | quiet_step ((go_at_call 34; with_reducible exact over_same (whence_c p _))))
  refine wpQuiet_nil ?_
  intro z
  have hw := whN_lt p
  go_upto_region 5 with (go_at_call 36; refine (set_p _ c m (whN p) (w.heap.size + 1) (w.heap.size + 2) hs2 hc hmc (by omega) (g3.trans z.g) (by omega) (kq3.over z) (ks3.over z)).mono ?_; rintro e w4 ⟨rfl, g4, ks4, sz4, keep4⟩)
  have xs : w4.cell? ⟨w.heap.size + 1, 0, none⟩ = some (.int .u64 (setP (setP (setP s b 1 (ofP s a 1)) a 1 0) c m (whN p) : Nat)) := by rw [ks4.cell]; rfl
  clear ha hb hc hm hmc hs hs1 hs2 y4 y5 keep4
  go_wp2
  go_ret
  exact ⟨rfl, g4⟩

end Go.Proofs.YtbkbbcfhmjodlaaDoor
