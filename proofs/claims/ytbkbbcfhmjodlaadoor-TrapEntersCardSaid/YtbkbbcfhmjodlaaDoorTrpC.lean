/-
  Package trap: leave.
-/
import Derived.Test.YtbkbbcfhmjodlaaDoorTrpB
set_option linter.unusedVariables false
set_option linter.unusedSimpArgs false
namespace Go.Proofs.YtbkbbcfhmjodlaaDoor
open Go.RowKit

theorem wp_gen1 {P : Program} {code : Code} {Q : Exit → Act → World → Prop} {a : Act} {W w : World} {c1 : Array Value} {T1 : TypeId} (hg : Grew W w)
    (h : ∀ w1, Blk w1 w.heap.size c1 T1 → Grew W w1 → (∀ b cs T, Blk w b cs T → Blk w1 b cs T) → code.wp P Q a w1) : code.wp P Q a (w.alloc (.cells c1 T1)) :=
  h _ (Blk.new w c1 T1 _ rfl) (hg.alloc _) fun _ _ _ hk => hk.alloc _
/-- Status behind a return; the privilege that it leads to. -/
def leaveN (a b c m s : Nat) : Nat := setP (setP (setP s a 1 (ofP s b 1)) b 1 1) c m 0

set_option maxRecDepth 100000 in
theorem leave_c (a b c m s : Nat) (ha : a < 64) (hb : b < 64) (hc : c < 64) (hm : m < 4) (hmc : m * 2 ^ c < 2 ^ 64) (hs : s < 2 ^ 64) (three : Bool) (h3 : ((((ofP s c m : Nat) : Int) != 3) = !three)) (r : Nat) (hr : r = if three = true then leaveN a b c m s else setP (leaveN a b c m s) 17 1 0) {W w : World} (hg : Grew W w) :
    Calls Tryd.prog 29 #[partsV a b c m, .int .u64 (s : Nat)] w fun e w' =>
      e = .returned (.tuple #[.int .u64 (r : Nat), .int .i64 (ofP s c m : Nat)]) ∧ Grew W w' := by
  have hgs := hg.size
  have hof : ofP s c m < 4 := Nat.lt_of_le_of_lt Nat.and_le_right hm
  have H := Lib.hid (And.intro ha (And.intro hb (And.intro hc (And.intro hm (And.intro hmc hs)))))
  have HR := Lib.hid hr
  clear ha hb hc hm hmc hs hr
  go_enter Tryd.func29, Tryd.ntmps29
  go_upto_region 1 with fail
  refine wp_gen2 hg ?_
  intro w1 kb ks g1
  have x0 : w1.cell? ⟨w.heap.size, 4, none⟩ = some (.int .i64 (c : Nat)) := by rw [kb.cell]; rfl
  have x1 : w1.cell? ⟨w.heap.size, 5, none⟩ = some (.int .u64 (m : Nat)) := by rw [kb.cell]; rfl
  have xs : w1.cell? ⟨w.heap.size + 1, 0, none⟩ = some (.int .u64 (s : Nat)) := by rw [ks.cell]; rfl
  have w63 : IntKind.i64.wrap ((ofP s c m : Nat) : Int) = ((ofP s c m : Nat) : Int) := by rw [IntWalk.i64_in _ (by omega)]
  go_upto_region 2 with (go_at_call 32; refine (of_c s c m H.out.2.2.2.2.2 H.out.2.2.1 (by have := H.out.2.2.2.1; omega) (Grew.refl w1)).mono ?_; rintro e w2 ⟨rfl, g12⟩)
  have kb2 := kb.grew g12
  have ks2 := ks.grew g12
  have g2 := g1.trans g12
  clear kb ks g1 g12 x0 x1 xs
  go_upto_region 3 with (go_at_call 33; refine (setter_c _ _).mono ?_; rintro e w3 ⟨rfl, rfl⟩)
  refine wp_gen1 g2 ?_
  intro w3 kq g3 keep3
  have kb3 := keep3 _ _ _ kb2
  have ks3 := keep3 _ _ _ ks2
  have hsz := ks2.lt
  generalize w2.heap.size = q at *
  clear kb2 ks2 keep3
  have y0 := fun z : Over w3 => kb3.overCell 0 _ rfl z
  have y1 := fun z : Over w3 => kb3.overCell 1 _ rfl z
  have y2 := fun z : Over w3 => kb3.overCell 2 _ rfl z
  have y3 := fun z : Over w3 => kb3.overCell 3 _ rfl z
  have ys := fun z : Over w3 => ks3.overCell 0 _ rfl z
  refine region_over_tail 7 (by kernel_rfl) (by kernel_rfl) ?_
  simp only [List.take_succ_cons, List.take_zero, List.drop_succ_cons, List.drop_zero]
  repeat (first | go_big_quiet_step ((go_at_call 32; with_reducible exact over_eq (of_c s b 1 H.out.2.2.2.2.2 H.out.2.1 (by decide) (Over.g _)))) | quiet_step ((go_at_call 32; with_reducible exact over_eq (of_c s b 1 H.out.2.2.2.2.2 H.out.2.1 (by decide) (Over.g _)))))
  refine wpQuiet_nil ?_
  intro z
  obtain ⟨ha, hb, hc, hm, hmc, hs⟩ := H.out
  have hs1 := setP_lt s a 1 (ofP s b 1) hs (one_lt ha)
  have hs2 := setP_lt _ b 1 1 hs1 (one_lt hb)
  have hs3 : leaveN a b c m s < 2 ^ 64 := setP_lt _ c m 0 hs2 hmc
  go_upto_region 4 with (go_at_call 36; refine (set_p s a 1 (ofP s b 1) (w.heap.size + 1) q hs ha (one_lt ha) (ofP_lt _ _ _ hs) (g3.trans z.g) (by omega) (kq.over z) (ks3.over z)).mono ?_; rintro e w4 ⟨rfl, g4, ks4, sz4, keep4⟩)
  have kb4 := keep4 _ _ _ (by omega) (kb3.over z)
  have kq4 := keep4 _ _ _ (by omega) (kq.over z)
  have x0 : w4.cell? ⟨w.heap.size, 2, none⟩ = some (.int .i64 (b : Nat)) := by rw [kb4.cell]; rfl
  have x1 : w4.cell? ⟨w.heap.size, 3, none⟩ = some (.int .u64 1) := by rw [kb4.cell]; rfl
  clear keep4 y0 y1 y2 y3 ys
  go_upto_region 5 with (go_at_call 36; refine (set_p _ b 1 1 (w.heap.size + 1) q hs1 hb (one_lt hb) (by decide) g4 (by omega) kq4 ks4).mono ?_; rintro e w5 ⟨rfl, g5, ks5, sz5, keep5⟩)
  have kb5 := keep5 _ _ _ (by omega) kb4
  have kq5 := keep5 _ _ _ (by omega) kq4
  clear x0 x1 keep5
  have x0 : w5.cell? ⟨w.heap.size, 4, none⟩ = some (.int .i64 (c : Nat)) := by rw [kb5.cell]; rfl
  have x1 : w5.cell? ⟨w.heap.size, 5, none⟩ = some (.int .u64 (m : Nat)) := by rw [kb5.cell]; rfl
  go_upto_region 6 with (go_at_call 36; refine (set_p _ c m 0 (w.heap.size + 1) q hs2 hc hmc (by decide) g5 (by omega) kq5 ks5).mono ?_; rintro e w6 ⟨rfl, g6, ks6, sz6, keep6⟩)
  have kb6 := keep6 _ _ _ (by omega) kb5
  have kq6 := keep6 _ _ _ (by omega) kq5
  clear x0 x1 keep6
  change Blk w6 (w.heap.size + 1) #[.int .u64 (leaveN a b c m s : Nat)] _ at ks6
  have xs : w6.cell? ⟨w.heap.size + 1, 0, none⟩ = some (.int .u64 (leaveN a b c m s : Nat)) := by rw [ks6.cell]; rfl
  have hr := HR.out
  cases three
  · rw [if_neg (by simp)] at hr
    simp only [Bool.not_false] at h3
    subst hr
    clear xs
    have hne : w.heap.size + 1 ≠ q := by omega
    go_upto_region 8 with (first
      | (go_at_call 35; refine (asFrom_c (Grew.refl _)).mono ?_; rintro e w7 ⟨rfl, g67⟩)
      | (go_at_call 36; refine (set_p _ 17 1 0 (w.heap.size + 1) q hs3 (by decide) (by decide) (by decide) (g6.trans g67) (by omega) (kq6.grew g67) (ks6.grew g67)).mono ?_; rintro e w8 ⟨rfl, g8, ks8, sz8, keep8⟩))
    have xs : w8.cell? ⟨w.heap.size + 1, 0, none⟩ = some (.int .u64 (setP (leaveN a b c m s) 17 1 0 : Nat)) := by rw [ks8.cell]; rfl
    clear keep8 ha hb hc hm hmc hs hs1 hs2 hs3
    go_wp2
    go_ret2
    exact ⟨rfl, g8⟩
  · rw [if_pos rfl] at hr
    simp only [Bool.not_true] at h3
    subst hr
    clear ha hb hc hm hmc hs hs1 hs2 hs3
    go_wp2
    go_ret2
    exact ⟨rfl, g6⟩
end Go.Proofs.YtbkbbcfhmjodlaaDoor
