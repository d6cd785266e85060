/-
  Package plic: what is done at registers: levels and sources loaded and stored, a source claimed, one given back.
-/
import Derived.Test.YtgcfmijkggpemaaGreatPlG
import Derived.Test.YtgcfmijkggpemaaGreatTrn
set_option maxRecDepth 4000
set_option linter.unusedVariables false
set_option linter.unusedSimpArgs false
namespace Go.Proofs.YtgcfmijkggpemaaGreat
open Go.RowKit

theorem lvl_load {c o : Nat} {x : Int} {cs : Array Value} {T : TypeId} {w : World} (hb : Blk w c cs T) (hx : cs[o]? = some (.int .i64 x)) (h0 : 0 ≤ x) (h1 : x < 8) :
    Calls Tryz.prog 112 #[.pointer (some ⟨c, o, none⟩)] w fun e w' => e = .returned (.int .u32 x) ∧ w = w' := by
  have c0 : w.cell? ⟨c, o, none⟩ = some (.int .i64 x) := by rw [hb.cell]; exact hx
  clear hx hb
  go_enter Tryz.func112, Tryz.ntmps112
  go_wp2_with fail
  go_ret
  exact ⟨by first | rfl | exact ret_u32 (by simp [IntKind.wrap, IntKind.bits, IntKind.signed]; omega), rfl⟩
theorem src_load {c o : Nat} {x : Int} {cs : Array Value} {T : TypeId} {w : World} (hb : Blk w c cs T) (hx : cs[o]? = some (.int .i64 x)) (h0 : 0 ≤ x) (h1 : x < 8) :
    Calls Tryz.prog 114 #[.pointer (some ⟨c, o, none⟩)] w fun e w' => e = .returned (.int .u32 x) ∧ w = w' := by
  have c0 : w.cell? ⟨c, o, none⟩ = some (.int .i64 x) := by rw [hb.cell]; exact hx
  clear hx hb
  go_enter Tryz.func114, Tryz.ntmps114
  go_wp2_with fail
  go_ret
  exact ⟨by first | rfl | exact ret_u32 (by simp [IntKind.wrap, IntKind.bits, IntKind.signed]; omega), rfl⟩
theorem lvl_store {c o : Nat} {x : Int} {cs : Array Value} {T : TypeId} {w : World} (hb : Blk w c cs T) (ho : o < cs.size) (h0 : 0 ≤ x) (h1 : x < 4294967296) :
    Calls Tryz.prog 113 #[.pointer (some ⟨c, o, none⟩), .int .u32 x] w fun e w' => e = .returned (.tuple #[]) ∧ Blk w' c (cs.setIfInBounds o (.int .i64 (x % 8))) T ∧ Trn c w w' := by
  have c0 : w.cell? ⟨c, o, none⟩ = some cs[o] := by rw [hb.cell]; simp [ho]
  have f0 := hb.free o
  have HB := Lib.hid hb
  generalize cs[o] = old at c0
  clear hb
  go_enter Tryz.func113, Tryz.ntmps113
  go_wp2_with fail
  go_end0
  exact ⟨rfl, HB.out.set _, Trn.set _ _ _ _⟩
theorem src_store {c o : Nat} {x : Int} {cs : Array Value} {T : TypeId} {w : World} (hb : Blk w c cs T) (ho : o < cs.size) (h0 : 0 ≤ x) (h1 : x < 4294967296) :
    Calls Tryz.prog 117 #[.pointer (some ⟨c, o, none⟩), .int .u32 x] w fun e w' => e = .returned (.tuple #[]) ∧ Blk w' c (cs.setIfInBounds o (.int .i64 (bits .and .i64 x 6))) T ∧ Trn c w w' := by
  have c0 : w.cell? ⟨c, o, none⟩ = some cs[o] := by rw [hb.cell]; simp [ho]
  have f0 := hb.free o
  have HB := Lib.hid hb
  generalize cs[o] = old at c0
  clear hb
  go_enter Tryz.func117, Tryz.ntmps117
  go_wp2_with fail
  go_end0
  exact ⟨rfl, HB.out.set _, Trn.set _ _ _ _⟩

/-- The offset of a context's cells. -/
def ctxO (x : Int) : Nat := if x = 0 then 5 else 7
theorem VS.ctxE (s : VS) {x : Int} (_hx : x = 0 ∨ x = 1) : s.ctl[ctxO x]? = some (.int .i64 (s.e x)) := by rcases _hx with rfl | rfl <;> rfl
theorem VS.ctxT (s : VS) {x : Int} (_hx : x = 0 ∨ x = 1) : s.ctl[ctxO x + 1]? = some (.int .i64 (s.t x)) := by rcases _hx with rfl | rfl <;> rfl
theorem VS.claimN (s : VS) (b : Int) : (s.ctl.setIfInBounds 3 (.int .i64 (bits .andNot .i64 s.n (onlyV b)))).setIfInBounds 4 (.int .i64 (bits .or .i64 s.k (onlyV b))) = (s.claim b).ctl := rfl
theorem VS.backN (s : VS) (x y : Int) : s.ctl.setIfInBounds 4 (.int .i64 (bits .andNot .i64 s.k (bits .and .i64 (onlyV y) (s.e x)))) = (s.back x y).ctl := rfl

set_option maxHeartbeats 1000000 in
theorem claim_c {c : Nat} {s : VS} (hs : s.Ok) {x : Int} (hx : x = 0 ∨ x = 1) {w : World} (hb : Blk w c s.ctl 87) :
    Calls Tryz.prog 118 #[.agg #[.pointer (some ⟨c, 0, none⟩), .pointer (some ⟨c, ctxO x, none⟩)]] w fun e w' => e = .returned (.int .u32 (s.best x)) ∧ Blk w' c (s.claim (s.best x)).ctl 87 ∧ Trn c w w' := by
  have hB := fun (W w : World) (g : Grew W w) (h : Blk w c s.ctl 87) => plBest_c hs x h g
  have hin := s.best_in x
  have h0 : 0 ≤ s.best x := by omega
  have h1 : s.best x < 4294967296 := by omega
  have hO := fun w => plOnly_c (s.best x) h0 h1 w
  have hE := s.ctxE hx
  have hT := s.ctxT hx
  rw [← s.claimN (s.best x)]
  generalize hy : ctxO x = y at *
  generalize s.best x = b at *
  generalize s.e x = ex at *
  generalize s.t x = tx at *
  generalize onlyV b = ob at *
  have hc := hb.lt
  have HB := Lib.hid hB
  have HO := Lib.hid hO
  have HE := Lib.hid hE
  have HT := Lib.hid hT
  have HY := Lib.hid hy
  clear hB hO hE hT hin h0 h1 hs hx hy
  go_enter Tryz.func118, Tryz.ntmps118
  go_upto_region 1 with fail
  have kc := hb.alloc (.cells #[.pointer (some ⟨c, 0, none⟩), .pointer (some ⟨c, y, none⟩)] 169)
  have kd : Blk (w.alloc (.cells #[.pointer (some ⟨c, 0, none⟩), .pointer (some ⟨c, y, none⟩)] 169)) w.heap.size #[.pointer (some ⟨c, 0, none⟩), .pointer (some ⟨c, y, none⟩)] 169 := Blk.new _ _ _ _ rfl
  have g1 := (Grew.refl w).alloc (.cells #[.pointer (some ⟨c, 0, none⟩), .pointer (some ⟨c, y, none⟩)] 169)
  generalize w.alloc (.cells #[.pointer (some ⟨c, 0, none⟩), .pointer (some ⟨c, y, none⟩)] 169) = w1 at *
  have HC := Lib.hid hc
  generalize w.heap.size = D at hc kd
  have z0 := fun z : Over w1 => kd.overCell 0 _ rfl z
  have z1 := fun z : Over w1 => kd.overCell 1 _ rfl z
  have z2 : ∀ z : Over w1, z.w.cell? ⟨c, y, none⟩ = some (.int .i64 ex) := fun z => kc.overCell y _ HE.out z
  have z3 : ∀ z : Over w1, z.w.cell? ⟨c, y + 1, none⟩ = some (.int .i64 tx) := fun z => kc.overCell (y + 1) _ HT.out z
  refine region_over (by kernel_rfl) (by kernel_rfl) ?_
  repeat (first | go_big_quiet_step ((go_at_call 42; with_reducible exact over_eq (HB.out _ _ (Over.g _) (kc.over _)))) | quiet_step ((go_at_call 42; with_reducible exact over_eq (HB.out _ _ (Over.g _) (kc.over _)))))
  refine wpQuiet_nil ?_
  intro z
  have kc2 := kc.over z
  have kd2 := kd.over z
  have t2 : Trn c w z.w := Trn.of_grew (g1.trans z.g)
  clear z0 z1 z2 z3 kc kd g1
  generalize z.w = w2 at *
  go_upto_region 2 with fail
  have z0 := fun z : Over w2 => kd2.overCell 0 _ rfl z
  have z1 := fun z : Over w2 => kc2.overCell 3 _ rfl z
  refine region_over_tail 10 (by kernel_rfl) (by kernel_rfl) ?_
  simp only [List.take_succ_cons, List.take_zero, List.drop_succ_cons, List.drop_zero]
  repeat (first | go_big_quiet_step ((go_at_call 71; with_reducible exact over_same (HO.out _))) | quiet_step ((go_at_call 71; with_reducible exact over_same (HO.out _))))
  refine wpQuiet_nil ?_
  intro z
  have kc3 := kc2.over z
  have kd3 := kd2.over z
  have t3 : Trn c w z.w := t2.trans (Trn.of_grew z.g)
  clear z0 z1 kc2 kd2 t2
  generalize z.w = w3 at *
  have c3 := kc3.cell 3
  have f3 := kc3.free 3
  have hne : D ≠ c := by omega
  go_upto_region 3 with fail
  have kc4 := kc3.set (o := 3) (.int .i64 (bits .andNot .i64 s.n ob))
  have kd4 := kd3.other hne (o := 3) (.int .i64 (bits .andNot .i64 s.n ob))
  have t4 := t3.trans (Trn.set w3 c 3 (.int .i64 (bits .andNot .i64 s.n ob)))
  clear c3 f3 kc3 kd3 t3
  generalize w3.setCell ⟨c, 3, none⟩ (.int .i64 (bits .andNot .i64 s.n ob)) = w4 at *
  have z0 := fun z : Over w4 => kd4.overCell 0 _ rfl z
  have z1 := fun z : Over w4 => kc4.overCell 4 _ rfl z
  refine region_over_tail 10 (by kernel_rfl) (by kernel_rfl) ?_
  simp only [List.take_succ_cons, List.take_zero, List.drop_succ_cons, List.drop_zero]
  repeat (first | go_big_quiet_step ((go_at_call 71; with_reducible exact over_same (HO.out _))) | quiet_step ((go_at_call 71; with_reducible exact over_same (HO.out _))))
  refine wpQuiet_nil ?_
  intro z
  have kc5 := kc4.over z
  have t5 : Trn c w z.w := t4.trans (Trn.of_grew z.g)
  clear z0 z1 kc4 kd4 t4
  generalize z.w = w5 at *
  have c4 := kc5.cell 4
  have f4 := kc5.free 4
  go_wp2_with fail
  go_ret
  exact ⟨rfl, kc5.set _, t5.trans (Trn.set w5 c 4 _)⟩

set_option maxHeartbeats 1000000 in
theorem giveBack_c {c : Nat} {s : VS} {x : Int} (hx : x = 0 ∨ x = 1) (n : Int) (h0 : 0 ≤ n) (h1 : n < 4294967296) {w : World} (hb : Blk w c s.ctl 87) :
    Calls Tryz.prog 119 #[.agg #[.pointer (some ⟨c, 0, none⟩), .pointer (some ⟨c, ctxO x, none⟩)], .int .u32 n] w fun e w' => e = .returned (.tuple #[]) ∧ Blk w' c (s.back x n).ctl 87 ∧ Trn c w w' := by
  have hO := fun w => plOnly_c n h0 h1 w
  have hE := s.ctxE hx
  rw [← s.backN x n]
  generalize hy : ctxO x = y at *
  generalize s.e x = ex at *
  generalize onlyV n = ob at *
  have hc := hb.lt
  have HO := Lib.hid hO
  have HE := Lib.hid hE
  have HY := Lib.hid hy
  clear hO hE h0 h1 hx hy
  go_enter Tryz.func119, Tryz.ntmps119
  go_upto_region 1 with fail
  have kc := hb.alloc (.cells #[.pointer (some ⟨c, 0, none⟩), .pointer (some ⟨c, y, none⟩)] 169)
  have kd : Blk (w.alloc (.cells #[.pointer (some ⟨c, 0, none⟩), .pointer (some ⟨c, y, none⟩)] 169)) w.heap.size #[.pointer (some ⟨c, 0, none⟩), .pointer (some ⟨c, y, none⟩)] 169 := Blk.new _ _ _ _ rfl
  have g1 := (Grew.refl w).alloc (.cells #[.pointer (some ⟨c, 0, none⟩), .pointer (some ⟨c, y, none⟩)] 169)
  generalize w.alloc (.cells #[.pointer (some ⟨c, 0, none⟩), .pointer (some ⟨c, y, none⟩)] 169) = w1 at *
  have HC := Lib.hid hc
  generalize w.heap.size = D at hc kd
  have z0 := fun z : Over w1 => kd.overCell 0 _ rfl z
  have z1 := fun z : Over w1 => kd.overCell 1 _ rfl z
  have z2 : ∀ z : Over w1, z.w.cell? ⟨c, y, none⟩ = some (.int .i64 ex) := fun z => kc.overCell y _ HE.out z
  have z3 := fun z : Over w1 => kc.overCell 4 _ rfl z
  refine region_over_tail 16 (by kernel_rfl) (by kernel_rfl) ?_
  simp only [List.take_succ_cons, List.take_zero, List.drop_succ_cons, List.drop_zero]
  repeat (first | go_big_quiet_step ((go_at_call 71; with_reducible exact over_same (HO.out _))) | quiet_step ((go_at_call 71; with_reducible exact over_same (HO.out _))))
  refine wpQuiet_nil ?_
  intro z
  have kc5 := kc.over z
  have t5 : Trn c w z.w := Trn.of_grew (g1.trans z.g)
  clear z0 z1 z2 z3 kc kd g1
  generalize z.w = w5 at *
  have c4 := kc5.cell 4
  have f4 := kc5.free 4
  go_wp2_with fail
  go_end0
  exact ⟨rfl, kc5.set _, t5.trans (Trn.set w5 c 4 _)⟩
end Go.Proofs.YtgcfmijkggpemaaGreat
