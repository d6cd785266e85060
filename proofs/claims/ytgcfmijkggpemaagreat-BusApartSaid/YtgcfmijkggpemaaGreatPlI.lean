/-
  Package plic: registers looked up (lookAt, look).
-/
import Derived.Test.YtgcfmijkggpemaaGreatPlH
set_option maxRecDepth 4000
set_option linter.unusedVariables false
set_option linter.unusedSimpArgs false
namespace Go.Proofs.YtgcfmijkggpemaaGreat
open Go.RowKit

set_option maxHeartbeats 1000000 in
theorem lookAt_4 (c : Nat) {s : VS} {w : World} (_hb : Blk w c s.ctl 87) :
    Calls Tryz.prog 116 #[.pointer (some ⟨c, 0, none⟩), .int .i64 0, .int .u64 8192] w fun e w' => e = .returned (.tuple #[.agg #[.func (.func 114) #[.pointer (some ⟨c, 5, none⟩)] #[], .func (.func 117) #[.pointer (some ⟨c, 5, none⟩)] #[]], .bool true]) ∧ Grew w w' := by
  go_enter Tryz.func116, Tryz.ntmps116
  go_upto_region 4 with fail
  have kr : Blk (w.alloc (.cells #[.nilFunc, .nilFunc] 126)) w.heap.size #[.nilFunc, .nilFunc] 126 := Blk.new _ _ _ _ rfl
  have gr := (Grew.refl w).alloc (.cells #[.nilFunc, .nilFunc] 126)
  generalize w.alloc (.cells #[.nilFunc, .nilFunc] 126) = w1 at *
  generalize hRn : w.heap.size = R at kr ⊢
  have hR : w.heap.size ≤ R := by omega
  clear hRn
  refine region_over_tail 9 (by kernel_rfl) (by kernel_rfl) ?_
  simp only [List.take_succ_cons, List.take_zero, List.drop_succ_cons, List.drop_zero]
  repeat (first | go_big_quiet_step (fail) | quiet_step (fail))
  refine wpQuiet_nil ?_
  intro z
  have kz := kr.over z
  have gz := gr.trans z.g
  generalize z.w = wz at *
  have c0 := kz.cell 0
  have c1 := kz.cell 1
  have f0 := kz.free 0
  have f1 := kz.free 1
  go_wp2_with fail
  have ky := (kz.set (o := 0) (.func (.func 114) #[.pointer (some ⟨c, 5, none⟩)] #[])).set (o := 1) (.func (.func 117) #[.pointer (some ⟨c, 5, none⟩)] #[])
  have gy := (gz.setCell (b := R) (o := 0) (by omega) (.func (.func 114) #[.pointer (some ⟨c, 5, none⟩)] #[])).setCell (b := R) (o := 1) (by omega) (.func (.func 117) #[.pointer (some ⟨c, 5, none⟩)] #[])
  generalize (wz.setCell ⟨R, 0, none⟩ (.func (.func 114) #[.pointer (some ⟨c, 5, none⟩)] #[])).setCell ⟨R, 1, none⟩ (.func (.func 117) #[.pointer (some ⟨c, 5, none⟩)] #[]) = wy at *
  have y0 := ky.cell 0
  have y1 := ky.cell 1
  exact bodyPost_ret (v := .tuple #[.agg #[.func (.func 114) #[.pointer (some ⟨c, 5, none⟩)] #[], .func (.func 117) #[.pointer (some ⟨c, 5, none⟩)] #[]], .bool true]) (by simp [results, Tryz.results116, go_sem, y0, y1]) rfl ⟨rfl, gy⟩
set_option maxHeartbeats 1000000 in
theorem lookAt_6 (c : Nat) {s : VS} {w : World} (_hb : Blk w c s.ctl 87) :
    Calls Tryz.prog 116 #[.pointer (some ⟨c, 0, none⟩), .int .i64 0, .int .u64 2097152] w fun e w' => e = .returned (.tuple #[.agg #[.func (.func 112) #[.pointer (some ⟨c, 6, none⟩)] #[], .func (.func 113) #[.pointer (some ⟨c, 6, none⟩)] #[]], .bool true]) ∧ Grew w w' := by
  go_enter Tryz.func116, Tryz.ntmps116
  go_upto_region 6 with fail
  have kr : Blk (w.alloc (.cells #[.nilFunc, .nilFunc] 126)) w.heap.size #[.nilFunc, .nilFunc] 126 := Blk.new _ _ _ _ rfl
  have gr := (Grew.refl w).alloc (.cells #[.nilFunc, .nilFunc] 126)
  generalize w.alloc (.cells #[.nilFunc, .nilFunc] 126) = w1 at *
  generalize hRn : w.heap.size = R at kr ⊢
  have hR : w.heap.size ≤ R := by omega
  clear hRn
  refine region_over_tail 9 (by kernel_rfl) (by kernel_rfl) ?_
  simp only [List.take_succ_cons, List.take_zero, List.drop_succ_cons, List.drop_zero]
  repeat (first | go_big_quiet_step (fail) | quiet_step (fail))
  refine wpQuiet_nil ?_
  intro z
  have kz := kr.over z
  have gz := gr.trans z.g
  generalize z.w = wz at *
  have c0 := kz.cell 0
  have c1 := kz.cell 1
  have f0 := kz.free 0
  have f1 := kz.free 1
  go_wp2_with fail
  have ky := (kz.set (o := 0) (.func (.func 112) #[.pointer (some ⟨c, 6, none⟩)] #[])).set (o := 1) (.func (.func 113) #[.pointer (some ⟨c, 6, none⟩)] #[])
  have gy := (gz.setCell (b := R) (o := 0) (by omega) (.func (.func 112) #[.pointer (some ⟨c, 6, none⟩)] #[])).setCell (b := R) (o := 1) (by omega) (.func (.func 113) #[.pointer (some ⟨c, 6, none⟩)] #[])
  generalize (wz.setCell ⟨R, 0, none⟩ (.func (.func 112) #[.pointer (some ⟨c, 6, none⟩)] #[])).setCell ⟨R, 1, none⟩ (.func (.func 113) #[.pointer (some ⟨c, 6, none⟩)] #[]) = wy at *
  have y0 := ky.cell 0
  have y1 := ky.cell 1
  exact bodyPost_ret (v := .tuple #[.agg #[.func (.func 112) #[.pointer (some ⟨c, 6, none⟩)] #[], .func (.func 113) #[.pointer (some ⟨c, 6, none⟩)] #[]], .bool true]) (by simp [results, Tryz.results116, go_sem, y0, y1]) rfl ⟨rfl, gy⟩
set_option maxHeartbeats 1000000 in
theorem lookAt_8 (c : Nat) {s : VS} {w : World} (_hb : Blk w c s.ctl 87) :
    Calls Tryz.prog 116 #[.pointer (some ⟨c, 0, none⟩), .int .i64 0, .int .u64 2097156] w fun e w' => e = .returned (.tuple #[.agg #[.func (.func 118) #[.agg #[.pointer (some ⟨c, 0, none⟩), .pointer (some ⟨c, 5, none⟩)]] #[], .func (.func 119) #[.agg #[.pointer (some ⟨c, 0, none⟩), .pointer (some ⟨c, 5, none⟩)]] #[]], .bool true]) ∧ Grew w w' := by
  go_enter Tryz.func116, Tryz.ntmps116
  go_upto_region 9 with fail
  have kz : Blk ((w.alloc (.cells #[.nilFunc, .nilFunc] 126)).alloc (.cells #[.pointer (some ⟨c, 0, none⟩), .pointer (some ⟨c, 5, none⟩)] 169)) w.heap.size #[.nilFunc, .nilFunc] 126 := (Blk.new _ _ _ _ rfl).alloc _
  have kd : Blk ((w.alloc (.cells #[.nilFunc, .nilFunc] 126)).alloc (.cells #[.pointer (some ⟨c, 0, none⟩), .pointer (some ⟨c, 5, none⟩)] 169)) (w.heap.size + 1) #[.pointer (some ⟨c, 0, none⟩), .pointer (some ⟨c, 5, none⟩)] 169 := Blk.new _ _ _ _ (by simp)
  have gz := ((Grew.refl w).alloc (.cells #[.nilFunc, .nilFunc] 126)).alloc (.cells #[.pointer (some ⟨c, 0, none⟩), .pointer (some ⟨c, 5, none⟩)] 169)
  generalize ((w.alloc (.cells #[.nilFunc, .nilFunc] 126)).alloc (.cells #[.pointer (some ⟨c, 0, none⟩), .pointer (some ⟨c, 5, none⟩)] 169)) = wz at *
  generalize hRn : w.heap.size = R at kz kd ⊢
  have hR : w.heap.size ≤ R := by omega
  clear hRn
  have d0 := kd.cell 0
  have d1 := kd.cell 1
  have c0 := kz.cell 0
  have c1 := kz.cell 1
  have f0 := kz.free 0
  have f1 := kz.free 1
  go_wp2_with fail
  have ky := (kz.set (o := 0) (.func (.func 118) #[.agg #[.pointer (some ⟨c, 0, none⟩), .pointer (some ⟨c, 5, none⟩)]] #[])).set (o := 1) (.func (.func 119) #[.agg #[.pointer (some ⟨c, 0, none⟩), .pointer (some ⟨c, 5, none⟩)]] #[])
  have gy := (gz.setCell (b := R) (o := 0) (by omega) (.func (.func 118) #[.agg #[.pointer (some ⟨c, 0, none⟩), .pointer (some ⟨c, 5, none⟩)]] #[])).setCell (b := R) (o := 1) (by omega) (.func (.func 119) #[.agg #[.pointer (some ⟨c, 0, none⟩), .pointer (some ⟨c, 5, none⟩)]] #[])
  generalize (wz.setCell ⟨R, 0, none⟩ (.func (.func 118) #[.agg #[.pointer (some ⟨c, 0, none⟩), .pointer (some ⟨c, 5, none⟩)]] #[])).setCell ⟨R, 1, none⟩ (.func (.func 119) #[.agg #[.pointer (some ⟨c, 0, none⟩), .pointer (some ⟨c, 5, none⟩)]] #[]) = wy at *
  have y0 := ky.cell 0
  have y1 := ky.cell 1
  exact bodyPost_ret (v := .tuple #[.agg #[.func (.func 118) #[.agg #[.pointer (some ⟨c, 0, none⟩), .pointer (some ⟨c, 5, none⟩)]] #[], .func (.func 119) #[.agg #[.pointer (some ⟨c, 0, none⟩), .pointer (some ⟨c, 5, none⟩)]] #[]], .bool true]) (by simp [results, Tryz.results116, go_sem, y0, y1]) rfl ⟨rfl, gy⟩
set_option maxHeartbeats 1000000 in
theorem lookAt_5 (c : Nat) {s : VS} {w : World} (_hb : Blk w c s.ctl 87) :
    Calls Tryz.prog 116 #[.pointer (some ⟨c, 0, none⟩), .int .i64 1, .int .u64 8320] w fun e w' => e = .returned (.tuple #[.agg #[.func (.func 114) #[.pointer (some ⟨c, 7, none⟩)] #[], .func (.func 117) #[.pointer (some ⟨c, 7, none⟩)] #[]], .bool true]) ∧ Grew w w' := by
  go_enter Tryz.func116, Tryz.ntmps116
  go_upto_region 4 with fail
  have kr : Blk (w.alloc (.cells #[.nilFunc, .nilFunc] 126)) w.heap.size #[.nilFunc, .nilFunc] 126 := Blk.new _ _ _ _ rfl
  have gr := (Grew.refl w).alloc (.cells #[.nilFunc, .nilFunc] 126)
  generalize w.alloc (.cells #[.nilFunc, .nilFunc] 126) = w1 at *
  generalize hRn : w.heap.size = R at kr ⊢
  have hR : w.heap.size ≤ R := by omega
  clear hRn
  refine region_over_tail 9 (by kernel_rfl) (by kernel_rfl) ?_
  simp only [List.take_succ_cons, List.take_zero, List.drop_succ_cons, List.drop_zero]
  repeat (first | go_big_quiet_step (fail) | quiet_step (fail))
  refine wpQuiet_nil ?_
  intro z
  have kz := kr.over z
  have gz := gr.trans z.g
  generalize z.w = wz at *
  have c0 := kz.cell 0
  have c1 := kz.cell 1
  have f0 := kz.free 0
  have f1 := kz.free 1
  go_wp2_with fail
  have ky := (kz.set (o := 0) (.func (.func 114) #[.pointer (some ⟨c, 7, none⟩)] #[])).set (o := 1) (.func (.func 117) #[.pointer (some ⟨c, 7, none⟩)] #[])
  have gy := (gz.setCell (b := R) (o := 0) (by omega) (.func (.func 114) #[.pointer (some ⟨c, 7, none⟩)] #[])).setCell (b := R) (o := 1) (by omega) (.func (.func 117) #[.pointer (some ⟨c, 7, none⟩)] #[])
  generalize (wz.setCell ⟨R, 0, none⟩ (.func (.func 114) #[.pointer (some ⟨c, 7, none⟩)] #[])).setCell ⟨R, 1, none⟩ (.func (.func 117) #[.pointer (some ⟨c, 7, none⟩)] #[]) = wy at *
  have y0 := ky.cell 0
  have y1 := ky.cell 1
  exact bodyPost_ret (v := .tuple #[.agg #[.func (.func 114) #[.pointer (some ⟨c, 7, none⟩)] #[], .func (.func 117) #[.pointer (some ⟨c, 7, none⟩)] #[]], .bool true]) (by simp [results, Tryz.results116, go_sem, y0, y1]) rfl ⟨rfl, gy⟩
set_option maxHeartbeats 1000000 in
theorem lookAt_7 (c : Nat) {s : VS} {w : World} (_hb : Blk w c s.ctl 87) :
    Calls Tryz.prog 116 #[.pointer (some ⟨c, 0, none⟩), .int .i64 1, .int .u64 2101248] w fun e w' => e = .returned (.tuple #[.agg #[.func (.func 112) #[.pointer (some ⟨c, 8, none⟩)] #[], .func (.func 113) #[.pointer (some ⟨c, 8, none⟩)] #[]], .bool true]) ∧ Grew w w' := by
  go_enter Tryz.func116, Tryz.ntmps116
  go_upto_region 6 with fail
  have kr : Blk (w.alloc (.cells #[.nilFunc, .nilFunc] 126)) w.heap.size #[.nilFunc, .nilFunc] 126 := Blk.new _ _ _ _ rfl
  have gr := (Grew.refl w).alloc (.cells #[.nilFunc, .nilFunc] 126)
  generalize w.alloc (.cells #[.nilFunc, .nilFunc] 126) = w1 at *
  generalize hRn : w.heap.size = R at kr ⊢
  have hR : w.heap.size ≤ R := by omega
  clear hRn
  refine region_over_tail 9 (by kernel_rfl) (by kernel_rfl) ?_
  simp only [List.take_succ_cons, List.take_zero, List.drop_succ_cons, List.drop_zero]
  repeat (first | go_big_quiet_step (fail) | quiet_step (fail))
  refine wpQuiet_nil ?_
  intro z
  have kz := kr.over z
  have gz := gr.trans z.g
  generalize z.w = wz at *
  have c0 := kz.cell 0
  have c1 := kz.cell 1
  have f0 := kz.free 0
  have f1 := kz.free 1
  go_wp2_with fail
  have ky := (kz.set (o := 0) (.func (.func 112) #[.pointer (some ⟨c, 8, none⟩)] #[])).set (o := 1) (.func (.func 113) #[.pointer (some ⟨c, 8, none⟩)] #[])
  have gy := (gz.setCell (b := R) (o := 0) (by omega) (.func (.func 112) #[.pointer (some ⟨c, 8, none⟩)] #[])).setCell (b := R) (o := 1) (by omega) (.func (.func 113) #[.pointer (some ⟨c, 8, none⟩)] #[])
  generalize (wz.setCell ⟨R, 0, none⟩ (.func (.func 112) #[.pointer (some ⟨c, 8, none⟩)] #[])).setCell ⟨R, 1, none⟩ (.func (.func 113) #[.pointer (some ⟨c, 8, none⟩)] #[]) = wy at *
  have y0 := ky.cell 0
  have y1 := ky.cell 1
  exact bodyPost_ret (v := .tuple #[.agg #[.func (.func 112) #[.pointer (some ⟨c, 8, none⟩)] #[], .func (.func 113) #[.pointer (some ⟨c, 8, none⟩)] #[]], .bool true]) (by simp [results, Tryz.results116, go_sem, y0, y1]) rfl ⟨rfl, gy⟩
set_option maxHeartbeats 1000000 in
theorem lookAt_9 (c : Nat) {s : VS} {w : World} (_hb : Blk w c s.ctl 87) :
    Calls Tryz.prog 116 #[.pointer (some ⟨c, 0, none⟩), .int .i64 1, .int .u64 2101252] w fun e w' => e = .returned (.tuple #[.agg #[.func (.func 118) #[.agg #[.pointer (some ⟨c, 0, none⟩), .pointer (some ⟨c, 7, none⟩)]] #[], .func (.func 119) #[.agg #[.pointer (some ⟨c, 0, none⟩), .pointer (some ⟨c, 7, none⟩)]] #[]], .bool true]) ∧ Grew w w' := by
  go_enter Tryz.func116, Tryz.ntmps116
  go_upto_region 9 with fail
  have kz : Blk ((w.alloc (.cells #[.nilFunc, .nilFunc] 126)).alloc (.cells #[.pointer (some ⟨c, 0, none⟩), .pointer (some ⟨c, 7, none⟩)] 169)) w.heap.size #[.nilFunc, .nilFunc] 126 := (Blk.new _ _ _ _ rfl).alloc _
  have kd : Blk ((w.alloc (.cells #[.nilFunc, .nilFunc] 126)).alloc (.cells #[.pointer (some ⟨c, 0, none⟩), .pointer (some ⟨c, 7, none⟩)] 169)) (w.heap.size + 1) #[.pointer (some ⟨c, 0, none⟩), .pointer (some ⟨c, 7, none⟩)] 169 := Blk.new _ _ _ _ (by simp)
  have gz := ((Grew.refl w).alloc (.cells #[.nilFunc, .nilFunc] 126)).alloc (.cells #[.pointer (some ⟨c, 0, none⟩), .pointer (some ⟨c, 7, none⟩)] 169)
  generalize ((w.alloc (.cells #[.nilFunc, .nilFunc] 126)).alloc (.cells #[.pointer (some ⟨c, 0, none⟩), .pointer (some ⟨c, 7, none⟩)] 169)) = wz at *
  generalize hRn : w.heap.size = R at kz kd ⊢
  have hR : w.heap.size ≤ R := by omega
  clear hRn
  have d0 := kd.cell 0
  have d1 := kd.cell 1
  have c0 := kz.cell 0
  have c1 := kz.cell 1
  have f0 := kz.free 0
  have f1 := kz.free 1
  go_wp2_with fail
  have ky := (kz.set (o := 0) (.func (.func 118) #[.agg #[.pointer (some ⟨c, 0, none⟩), .pointer (some ⟨c, 7, none⟩)]] #[])).set (o := 1) (.func (.func 119) #[.agg #[.pointer (some ⟨c, 0, none⟩), .pointer (some ⟨c, 7, none⟩)]] #[])
  have gy := (gz.setCell (b := R) (o := 0) (by omega) (.func (.func 118) #[.agg #[.pointer (some ⟨c, 0, none⟩), .pointer (some ⟨c, 7, none⟩)]] #[])).setCell (b := R) (o := 1) (by omega) (.func (.func 119) #[.agg #[.pointer (some ⟨c, 0, none⟩), .pointer (some ⟨c, 7, none⟩)]] #[])
  generalize (wz.setCell ⟨R, 0, none⟩ (.func (.func 118) #[.agg #[.pointer (some ⟨c, 0, none⟩), .pointer (some ⟨c, 7, none⟩)]] #[])).setCell ⟨R, 1, none⟩ (.func (.func 119) #[.agg #[.pointer (some ⟨c, 0, none⟩), .pointer (some ⟨c, 7, none⟩)]] #[]) = wy at *
  have y0 := ky.cell 0
  have y1 := ky.cell 1
  exact bodyPost_ret (v := .tuple #[.agg #[.func (.func 118) #[.agg #[.pointer (some ⟨c, 0, none⟩), .pointer (some ⟨c, 7, none⟩)]] #[], .func (.func 119) #[.agg #[.pointer (some ⟨c, 0, none⟩), .pointer (some ⟨c, 7, none⟩)]] #[]], .bool true]) (by simp [results, Tryz.results116, go_sem, y0, y1]) rfl ⟨rfl, gy⟩
theorem lookNo_0 (c : Nat) (off : Int) (h1 : off ≠ 8192) (h2 : off ≠ 2097152) (h3 : off ≠ 2097156) {s : VS} {w : World} (_hb : Blk w c s.ctl 87) :
    Calls Tryz.prog 116 #[.pointer (some ⟨c, 0, none⟩), .int .i64 0, .int .u64 off] w fun e w' => e = .returned (.tuple #[.agg #[.nilFunc, .nilFunc], .bool false]) ∧ Grew w w' := by
  have e1 : (off == 8192) = false := by simpa using h1
  have e2 : (off == 2097152) = false := by simpa using h2
  have e3 : (off == 2097156) = false := by simpa using h3
  clear h1 h2 h3
  go_enter Tryz.func116, Tryz.ntmps116
  go_wp2_with fail
  go_returns
  exact ⟨rfl, by repeat (first | exact Grew.refl _ | refine Grew.setCell ?_ (by simp) _ | refine Grew.alloc ?_ _)⟩
theorem lookNo_1 (c : Nat) (off : Int) (h1 : off ≠ 8320) (h2 : off ≠ 2101248) (h3 : off ≠ 2101252) {s : VS} {w : World} (_hb : Blk w c s.ctl 87) :
    Calls Tryz.prog 116 #[.pointer (some ⟨c, 0, none⟩), .int .i64 1, .int .u64 off] w fun e w' => e = .returned (.tuple #[.agg #[.nilFunc, .nilFunc], .bool false]) ∧ Grew w w' := by
  have e1 : (off == 8320) = false := by simpa using h1
  have e2 : (off == 2101248) = false := by simpa using h2
  have e3 : (off == 2101252) = false := by simpa using h3
  clear h1 h2 h3
  go_enter Tryz.func116, Tryz.ntmps116
  go_wp2_with fail
  go_returns
  exact ⟨rfl, by repeat (first | exact Grew.refl _ | refine Grew.setCell ?_ (by simp) _ | refine Grew.alloc ?_ _)⟩
set_option maxHeartbeats 1000000 in
theorem look_1 (c : Nat) {s : VS} {w : World} (hb : Blk w c s.ctl 87) :
    Calls Tryz.prog 98 #[.pointer (some ⟨c, 0, none⟩), .int .u64 4] w fun e w' => e = .returned (.tuple #[.agg #[.func (.func 112) #[.pointer (some ⟨c, 1, none⟩)] #[], .func (.func 113) #[.pointer (some ⟨c, 1, none⟩)] #[]], .bool true]) ∧ Grew w w' := by
  go_enter Tryz.func98, Tryz.ntmps98
  go_wp2_with fail
  go_returns
  exact ⟨rfl, by repeat (first | exact Grew.refl _ | refine Grew.setCell ?_ (by simp) _ | refine Grew.alloc ?_ _)⟩
set_option maxHeartbeats 1000000 in
theorem look_2 (c : Nat) {s : VS} {w : World} (hb : Blk w c s.ctl 87) :
    Calls Tryz.prog 98 #[.pointer (some ⟨c, 0, none⟩), .int .u64 8] w fun e w' => e = .returned (.tuple #[.agg #[.func (.func 112) #[.pointer (some ⟨c, 2, none⟩)] #[], .func (.func 113) #[.pointer (some ⟨c, 2, none⟩)] #[]], .bool true]) ∧ Grew w w' := by
  go_enter Tryz.func98, Tryz.ntmps98
  go_wp2_with fail
  go_returns
  exact ⟨rfl, by repeat (first | exact Grew.refl _ | refine Grew.setCell ?_ (by simp) _ | refine Grew.alloc ?_ _)⟩
set_option maxHeartbeats 1000000 in
theorem look_3 (c : Nat) {s : VS} {w : World} (hb : Blk w c s.ctl 87) :
    Calls Tryz.prog 98 #[.pointer (some ⟨c, 0, none⟩), .int .u64 4096] w fun e w' => e = .returned (.tuple #[.agg #[.func (.func 114) #[.pointer (some ⟨c, 3, none⟩)] #[], .func (.func 115) #[] #[]], .bool true]) ∧ Grew w w' := by
  go_enter Tryz.func98, Tryz.ntmps98
  go_wp2_with fail
  go_returns
  exact ⟨rfl, by repeat (first | exact Grew.refl _ | refine Grew.setCell ?_ (by simp) _ | refine Grew.alloc ?_ _)⟩
set_option maxHeartbeats 1000000 in
theorem look_4 (c : Nat) {s : VS} {w : World} (hb : Blk w c s.ctl 87) :
    Calls Tryz.prog 98 #[.pointer (some ⟨c, 0, none⟩), .int .u64 8192] w fun e w' => e = .returned (.tuple #[.agg #[.func (.func 114) #[.pointer (some ⟨c, 5, none⟩)] #[], .func (.func 117) #[.pointer (some ⟨c, 5, none⟩)] #[]], .bool true]) ∧ Grew w w' := by
  go_enter Tryz.func98, Tryz.ntmps98
  go_upto_region 8 with fail
  have kr : Blk (w.alloc (.cells #[.nilFunc, .nilFunc] 126)) w.heap.size #[.nilFunc, .nilFunc] 126 := Blk.new _ _ _ _ rfl
  have kc := hb.alloc (.cells #[.nilFunc, .nilFunc] 126)
  have gr := (Grew.refl w).alloc (.cells #[.nilFunc, .nilFunc] 126)
  generalize w.alloc (.cells #[.nilFunc, .nilFunc] 126) = w1 at *
  generalize hRn : w.heap.size = R at kr ⊢
  have hR : w.heap.size ≤ R := by omega
  clear hRn
  go_wp2_with fail
  refine wp_loop_rounds 3 ?_
  rw [rounds_succ]
  go_wp2_with fail
  refine (lookAt_4 c kc).mono ?_
  rintro e w4 ⟨rfl, g4⟩
  go_upto_region 12 with fail
  have k8 : Blk (w4.alloc (.cells #[.func (.func 114) #[.pointer (some ⟨c, 5, none⟩)] #[], .func (.func 117) #[.pointer (some ⟨c, 5, none⟩)] #[]] 126)) w4.heap.size #[.func (.func 114) #[.pointer (some ⟨c, 5, none⟩)] #[], .func (.func 117) #[.pointer (some ⟨c, 5, none⟩)] #[]] 126 := Blk.new _ _ _ _ rfl
  have g5 := g4.alloc (.cells #[.func (.func 114) #[.pointer (some ⟨c, 5, none⟩)] #[], .func (.func 117) #[.pointer (some ⟨c, 5, none⟩)] #[]] 126)
  have kr5 := kr.grew g5
  have gr5 := gr.trans g5
  clear kr kc gr g4 g5
  generalize w4.alloc (.cells #[.func (.func 114) #[.pointer (some ⟨c, 5, none⟩)] #[], .func (.func 117) #[.pointer (some ⟨c, 5, none⟩)] #[]] 126) = w5 at *
  generalize w4.heap.size = Y at *
  have x0 := k8.cell 0
  have x1 := k8.cell 1
  have c0 := kr5.cell 0
  have c1 := kr5.cell 1
  have f0 := kr5.free 0
  have f1 := kr5.free 1
  go_wp2_with fail
  clear x0 x1 c0 c1 f0 f1 k8
  have ky := (kr5.set (o := 0) (.func (.func 114) #[.pointer (some ⟨c, 5, none⟩)] #[])).set (o := 1) (.func (.func 117) #[.pointer (some ⟨c, 5, none⟩)] #[])
  have gy := (gr5.setCell (b := R) (o := 0) (by omega) (.func (.func 114) #[.pointer (some ⟨c, 5, none⟩)] #[])).setCell (b := R) (o := 1) (by omega) (.func (.func 117) #[.pointer (some ⟨c, 5, none⟩)] #[])
  generalize (w5.setCell ⟨R, 0, none⟩ (.func (.func 114) #[.pointer (some ⟨c, 5, none⟩)] #[])).setCell ⟨R, 1, none⟩ (.func (.func 117) #[.pointer (some ⟨c, 5, none⟩)] #[]) = wy at *
  have y0 := ky.cell 0
  have y1 := ky.cell 1
  exact bodyPost_ret (v := .tuple #[.agg #[.func (.func 114) #[.pointer (some ⟨c, 5, none⟩)] #[], .func (.func 117) #[.pointer (some ⟨c, 5, none⟩)] #[]], .bool true]) (by simp [results, Tryz.results98, go_sem, y0, y1]) rfl ⟨rfl, gy⟩
set_option maxHeartbeats 1000000 in
theorem look_5 (c : Nat) {s : VS} {w : World} (hb : Blk w c s.ctl 87) :
    Calls Tryz.prog 98 #[.pointer (some ⟨c, 0, none⟩), .int .u64 8320] w fun e w' => e = .returned (.tuple #[.agg #[.func (.func 114) #[.pointer (some ⟨c, 7, none⟩)] #[], .func (.func 117) #[.pointer (some ⟨c, 7, none⟩)] #[]], .bool true]) ∧ Grew w w' := by
  go_enter Tryz.func98, Tryz.ntmps98
  go_upto_region 8 with fail
  have kr : Blk (w.alloc (.cells #[.nilFunc, .nilFunc] 126)) w.heap.size #[.nilFunc, .nilFunc] 126 := Blk.new _ _ _ _ rfl
  have kc := hb.alloc (.cells #[.nilFunc, .nilFunc] 126)
  have gr := (Grew.refl w).alloc (.cells #[.nilFunc, .nilFunc] 126)
  generalize w.alloc (.cells #[.nilFunc, .nilFunc] 126) = w1 at *
  generalize hRn : w.heap.size = R at kr ⊢
  have hR : w.heap.size ≤ R := by omega
  clear hRn
  go_wp2_with fail
  refine wp_loop_rounds 3 ?_
  rw [rounds_succ]
  go_wp2_with fail
  refine (lookNo_0 c 8320 (by decide) (by decide) (by decide) kc).mono ?_
  rintro e w2 ⟨rfl, g2⟩
  go_upto_region 12 with fail
  have g3 := g2.alloc (.cells #[.nilFunc, .nilFunc] 126)
  have kr3 := kr.grew g3
  have kc3 := kc.grew g3
  have gr3 := gr.trans g3
  clear kr kc gr g2 g3
  generalize w2.alloc (.cells #[.nilFunc, .nilFunc] 126) = w3 at *
  go_wp2_with fail
  rw [rounds_succ]
  go_wp2_with fail
  refine (lookAt_5 c kc3).mono ?_
  rintro e w4 ⟨rfl, g4⟩
  go_upto_region 12 with fail
  have k8 : Blk (w4.alloc (.cells #[.func (.func 114) #[.pointer (some ⟨c, 7, none⟩)] #[], .func (.func 117) #[.pointer (some ⟨c, 7, none⟩)] #[]] 126)) w4.heap.size #[.func (.func 114) #[.pointer (some ⟨c, 7, none⟩)] #[], .func (.func 117) #[.pointer (some ⟨c, 7, none⟩)] #[]] 126 := Blk.new _ _ _ _ rfl
  have g5 := g4.alloc (.cells #[.func (.func 114) #[.pointer (some ⟨c, 7, none⟩)] #[], .func (.func 117) #[.pointer (some ⟨c, 7, none⟩)] #[]] 126)
  have kr5 := kr3.grew g5
  have gr5 := gr3.trans g5
  clear kr3 kc3 gr3 g4 g5
  generalize w4.alloc (.cells #[.func (.func 114) #[.pointer (some ⟨c, 7, none⟩)] #[], .func (.func 117) #[.pointer (some ⟨c, 7, none⟩)] #[]] 126) = w5 at *
  generalize w4.heap.size = Y at *
  have x0 := k8.cell 0
  have x1 := k8.cell 1
  have c0 := kr5.cell 0
  have c1 := kr5.cell 1
  have f0 := kr5.free 0
  have f1 := kr5.free 1
  go_wp2_with fail
  clear x0 x1 c0 c1 f0 f1 k8
  have ky := (kr5.set (o := 0) (.func (.func 114) #[.pointer (some ⟨c, 7, none⟩)] #[])).set (o := 1) (.func (.func 117) #[.pointer (some ⟨c, 7, none⟩)] #[])
  have gy := (gr5.setCell (b := R) (o := 0) (by omega) (.func (.func 114) #[.pointer (some ⟨c, 7, none⟩)] #[])).setCell (b := R) (o := 1) (by omega) (.func (.func 117) #[.pointer (some ⟨c, 7, none⟩)] #[])
  generalize (w5.setCell ⟨R, 0, none⟩ (.func (.func 114) #[.pointer (some ⟨c, 7, none⟩)] #[])).setCell ⟨R, 1, none⟩ (.func (.func 117) #[.pointer (some ⟨c, 7, none⟩)] #[]) = wy at *
  have y0 := ky.cell 0
  have y1 := ky.cell 1
  exact bodyPost_ret (v := .tuple #[.agg #[.func (.func 114) #[.pointer (some ⟨c, 7, none⟩)] #[], .func (.func 117) #[.pointer (some ⟨c, 7, none⟩)] #[]], .bool true]) (by simp [results, Tryz.results98, go_sem, y0, y1]) rfl ⟨rfl, gy⟩
set_option maxHeartbeats 1000000 in
theorem look_6 (c : Nat) {s : VS} {w : World} (hb : Blk w c s.ctl 87) :
    Calls Tryz.prog 98 #[.pointer (some ⟨c, 0, none⟩), .int .u64 2097152] w fun e w' => e = .returned (.tuple #[.agg #[.func (.func 112) #[.pointer (some ⟨c, 6, none⟩)] #[], .func (.func 113) #[.pointer (some ⟨c, 6, none⟩)] #[]], .bool true]) ∧ Grew w w' := by
  go_enter Tryz.func98, Tryz.ntmps98
  go_upto_region 8 with fail
  have kr : Blk (w.alloc (.cells #[.nilFunc, .nilFunc] 126)) w.heap.size #[.nilFunc, .nilFunc] 126 := Blk.new _ _ _ _ rfl
  have kc := hb.alloc (.cells #[.nilFunc, .nilFunc] 126)
  have gr := (Grew.refl w).alloc (.cells #[.nilFunc, .nilFunc] 126)
  generalize w.alloc (.cells #[.nilFunc, .nilFunc] 126) = w1 at *
  generalize hRn : w.heap.size = R at kr ⊢
  have hR : w.heap.size ≤ R := by omega
  clear hRn
  go_wp2_with fail
  refine wp_loop_rounds 3 ?_
  rw [rounds_succ]
  go_wp2_with fail
  refine (lookAt_6 c kc).mono ?_
  rintro e w4 ⟨rfl, g4⟩
  go_upto_region 12 with fail
  have k8 : Blk (w4.alloc (.cells #[.func (.func 112) #[.pointer (some ⟨c, 6, none⟩)] #[], .func (.func 113) #[.pointer (some ⟨c, 6, none⟩)] #[]] 126)) w4.heap.size #[.func (.func 112) #[.pointer (some ⟨c, 6, none⟩)] #[], .func (.func 113) #[.pointer (some ⟨c, 6, none⟩)] #[]] 126 := Blk.new _ _ _ _ rfl
  have g5 := g4.alloc (.cells #[.func (.func 112) #[.pointer (some ⟨c, 6, none⟩)] #[], .func (.func 113) #[.pointer (some ⟨c, 6, none⟩)] #[]] 126)
  have kr5 := kr.grew g5
  have gr5 := gr.trans g5
  clear kr kc gr g4 g5
  generalize w4.alloc (.cells #[.func (.func 112) #[.pointer (some ⟨c, 6, none⟩)] #[], .func (.func 113) #[.pointer (some ⟨c, 6, none⟩)] #[]] 126) = w5 at *
  generalize w4.heap.size = Y at *
  have x0 := k8.cell 0
  have x1 := k8.cell 1
  have c0 := kr5.cell 0
  have c1 := kr5.cell 1
  have f0 := kr5.free 0
  have f1 := kr5.free 1
  go_wp2_with fail
  clear x0 x1 c0 c1 f0 f1 k8
  have ky := (kr5.set (o := 0) (.func (.func 112) #[.pointer (some ⟨c, 6, none⟩)] #[])).set (o := 1) (.func (.func 113) #[.pointer (some ⟨c, 6, none⟩)] #[])
  have gy := (gr5.setCell (b := R) (o := 0) (by omega) (.func (.func 112) #[.pointer (some ⟨c, 6, none⟩)] #[])).setCell (b := R) (o := 1) (by omega) (.func (.func 113) #[.pointer (some ⟨c, 6, none⟩)] #[])
  generalize (w5.setCell ⟨R, 0, none⟩ (.func (.func 112) #[.pointer (some ⟨c, 6, none⟩)] #[])).setCell ⟨R, 1, none⟩ (.func (.func 113) #[.pointer (some ⟨c, 6, none⟩)] #[]) = wy at *
  have y0 := ky.cell 0
  have y1 := ky.cell 1
  exact bodyPost_ret (v := .tuple #[.agg #[.func (.func 112) #[.pointer (some ⟨c, 6, none⟩)] #[], .func (.func 113) #[.pointer (some ⟨c, 6, none⟩)] #[]], .bool true]) (by simp [results, Tryz.results98, go_sem, y0, y1]) rfl ⟨rfl, gy⟩
set_option maxHeartbeats 1000000 in
theorem look_7 (c : Nat) {s : VS} {w : World} (hb : Blk w c s.ctl 87) :
    Calls Tryz.prog 98 #[.pointer (some ⟨c, 0, none⟩), .int .u64 2101248] w fun e w' => e = .returned (.tuple #[.agg #[.func (.func 112) #[.pointer (some ⟨c, 8, none⟩)] #[], .func (.func 113) #[.pointer (some ⟨c, 8, none⟩)] #[]], .bool true]) ∧ Grew w w' := by
  go_enter Tryz.func98, Tryz.ntmps98
  go_upto_region 8 with fail
  have kr : Blk (w.alloc (.cells #[.nilFunc, .nilFunc] 126)) w.heap.size #[.nilFunc, .nilFunc] 126 := Blk.new _ _ _ _ rfl
  have kc := hb.alloc (.cells #[.nilFunc, .nilFunc] 126)
  have gr := (Grew.refl w).alloc (.cells #[.nilFunc, .nilFunc] 126)
  generalize w.alloc (.cells #[.nilFunc, .nilFunc] 126) = w1 at *
  generalize hRn : w.heap.size = R at kr ⊢
  have hR : w.heap.size ≤ R := by omega
  clear hRn
  go_wp2_with fail
  refine wp_loop_rounds 3 ?_
  rw [rounds_succ]
  go_wp2_with fail
  refine (lookNo_0 c 2101248 (by decide) (by decide) (by decide) kc).mono ?_
  rintro e w2 ⟨rfl, g2⟩
  go_upto_region 12 with fail
  have g3 := g2.alloc (.cells #[.nilFunc, .nilFunc] 126)
  have kr3 := kr.grew g3
  have kc3 := kc.grew g3
  have gr3 := gr.trans g3
  clear kr kc gr g2 g3
  generalize w2.alloc (.cells #[.nilFunc, .nilFunc] 126) = w3 at *
  go_wp2_with fail
  rw [rounds_succ]
  go_wp2_with fail
  refine (lookAt_7 c kc3).mono ?_
  rintro e w4 ⟨rfl, g4⟩
  go_upto_region 12 with fail
  have k8 : Blk (w4.alloc (.cells #[.func (.func 112) #[.pointer (some ⟨c, 8, none⟩)] #[], .func (.func 113) #[.pointer (some ⟨c, 8, none⟩)] #[]] 126)) w4.heap.size #[.func (.func 112) #[.pointer (some ⟨c, 8, none⟩)] #[], .func (.func 113) #[.pointer (some ⟨c, 8, none⟩)] #[]] 126 := Blk.new _ _ _ _ rfl
  have g5 := g4.alloc (.cells #[.func (.func 112) #[.pointer (some ⟨c, 8, none⟩)] #[], .func (.func 113) #[.pointer (some ⟨c, 8, none⟩)] #[]] 126)
  have kr5 := kr3.grew g5
  have gr5 := gr3.trans g5
  clear kr3 kc3 gr3 g4 g5
  generalize w4.alloc (.cells #[.func (.func 112) #[.pointer (some ⟨c, 8, none⟩)] #[], .func (.func 113) #[.pointer (some ⟨c, 8, none⟩)] #[]] 126) = w5 at *
  generalize w4.heap.size = Y at *
  have x0 := k8.cell 0
  have x1 := k8.cell 1
  have c0 := kr5.cell 0
  have c1 := kr5.cell 1
  have f0 := kr5.free 0
  have f1 := kr5.free 1
  go_wp2_with fail
  clear x0 x1 c0 c1 f0 f1 k8
  have ky := (kr5.set (o := 0) (.func (.func 112) #[.pointer (some ⟨c, 8, none⟩)] #[])).set (o := 1) (.func (.func 113) #[.pointer (some ⟨c, 8, none⟩)] #[])
  have gy := (gr5.setCell (b := R) (o := 0) (by omega) (.func (.func 112) #[.pointer (some ⟨c, 8, none⟩)] #[])).setCell (b := R) (o := 1) (by omega) (.func (.func 113) #[.pointer (some ⟨c, 8, none⟩)] #[])
  generalize (w5.setCell ⟨R, 0, none⟩ (.func (.func 112) #[.pointer (some ⟨c, 8, none⟩)] #[])).setCell ⟨R, 1, none⟩ (.func (.func 113) #[.pointer (some ⟨c, 8, none⟩)] #[]) = wy at *
  have y0 := ky.cell 0
  have y1 := ky.cell 1
  exact bodyPost_ret (v := .tuple #[.agg #[.func (.func 112) #[.pointer (some ⟨c, 8, none⟩)] #[], .func (.func 113) #[.pointer (some ⟨c, 8, none⟩)] #[]], .bool true]) (by simp [results, Tryz.results98, go_sem, y0, y1]) rfl ⟨rfl, gy⟩
set_option maxHeartbeats 1000000 in
theorem look_8 (c : Nat) {s : VS} {w : World} (hb : Blk w c s.ctl 87) :
    Calls Tryz.prog 98 #[.pointer (some ⟨c, 0, none⟩), .int .u64 2097156] w fun e w' => e = .returned (.tuple #[.agg #[.func (.func 118) #[.agg #[.pointer (some ⟨c, 0, none⟩), .pointer (some ⟨c, 5, none⟩)]] #[], .func (.func 119) #[.agg #[.pointer (some ⟨c, 0, none⟩), .pointer (some ⟨c, 5, none⟩)]] #[]], .bool true]) ∧ Grew w w' := by
  go_enter Tryz.func98, Tryz.ntmps98
  go_upto_region 8 with fail
  have kr : Blk (w.alloc (.cells #[.nilFunc, .nilFunc] 126)) w.heap.size #[.nilFunc, .nilFunc] 126 := Blk.new _ _ _ _ rfl
  have kc := hb.alloc (.cells #[.nilFunc, .nilFunc] 126)
  have gr := (Grew.refl w).alloc (.cells #[.nilFunc, .nilFunc] 126)
  generalize w.alloc (.cells #[.nilFunc, .nilFunc] 126) = w1 at *
  generalize hRn : w.heap.size = R at kr ⊢
  have hR : w.heap.size ≤ R := by omega
  clear hRn
  go_wp2_with fail
  refine wp_loop_rounds 3 ?_
  rw [rounds_succ]
  go_wp2_with fail
  refine (lookAt_8 c kc).mono ?_
  rintro e w4 ⟨rfl, g4⟩
  go_upto_region 12 with fail
  have k8 : Blk (w4.alloc (.cells #[.func (.func 118) #[.agg #[.pointer (some ⟨c, 0, none⟩), .pointer (some ⟨c, 5, none⟩)]] #[], .func (.func 119) #[.agg #[.pointer (some ⟨c, 0, none⟩), .pointer (some ⟨c, 5, none⟩)]] #[]] 126)) w4.heap.size #[.func (.func 118) #[.agg #[.pointer (some ⟨c, 0, none⟩), .pointer (some ⟨c, 5, none⟩)]] #[], .func (.func 119) #[.agg #[.pointer (some ⟨c, 0, none⟩), .pointer (some ⟨c, 5, none⟩)]] #[]] 126 := Blk.new _ _ _ _ rfl
  have g5 := g4.alloc (.cells #[.func (.func 118) #[.agg #[.pointer (some ⟨c, 0, none⟩), .pointer (some ⟨c, 5, none⟩)]] #[], .func (.func 119) #[.agg #[.pointer (some ⟨c, 0, none⟩), .pointer (some ⟨c, 5, none⟩)]] #[]] 126)
  have kr5 := kr.grew g5
  have gr5 := gr.trans g5
  clear kr kc gr g4 g5
  generalize w4.alloc (.cells #[.func (.func 118) #[.agg #[.pointer (some ⟨c, 0, none⟩), .pointer (some ⟨c, 5, none⟩)]] #[], .func (.func 119) #[.agg #[.pointer (some ⟨c, 0, none⟩), .pointer (some ⟨c, 5, none⟩)]] #[]] 126) = w5 at *
  generalize w4.heap.size = Y at *
  have x0 := k8.cell 0
  have x1 := k8.cell 1
  have c0 := kr5.cell 0
  have c1 := kr5.cell 1
  have f0 := kr5.free 0
  have f1 := kr5.free 1
  go_wp2_with fail
  clear x0 x1 c0 c1 f0 f1 k8
  have ky := (kr5.set (o := 0) (.func (.func 118) #[.agg #[.pointer (some ⟨c, 0, none⟩), .pointer (some ⟨c, 5, none⟩)]] #[])).set (o := 1) (.func (.func 119) #[.agg #[.pointer (some ⟨c, 0, none⟩), .pointer (some ⟨c, 5, none⟩)]] #[])
  have gy := (gr5.setCell (b := R) (o := 0) (by omega) (.func (.func 118) #[.agg #[.pointer (some ⟨c, 0, none⟩), .pointer (some ⟨c, 5, none⟩)]] #[])).setCell (b := R) (o := 1) (by omega) (.func (.func 119) #[.agg #[.pointer (some ⟨c, 0, none⟩), .pointer (some ⟨c, 5, none⟩)]] #[])
  generalize (w5.setCell ⟨R, 0, none⟩ (.func (.func 118) #[.agg #[.pointer (some ⟨c, 0, none⟩), .pointer (some ⟨c, 5, none⟩)]] #[])).setCell ⟨R, 1, none⟩ (.func (.func 119) #[.agg #[.pointer (some ⟨c, 0, none⟩), .pointer (some ⟨c, 5, none⟩)]] #[]) = wy at *
  have y0 := ky.cell 0
  have y1 := ky.cell 1
  exact bodyPost_ret (v := .tuple #[.agg #[.func (.func 118) #[.agg #[.pointer (some ⟨c, 0, none⟩), .pointer (some ⟨c, 5, none⟩)]] #[], .func (.func 119) #[.agg #[.pointer (some ⟨c, 0, none⟩), .pointer (some ⟨c, 5, none⟩)]] #[]], .bool true]) (by simp [results, Tryz.results98, go_sem, y0, y1]) rfl ⟨rfl, gy⟩
set_option maxHeartbeats 1000000 in
theorem look_9 (c : Nat) {s : VS} {w : World} (hb : Blk w c s.ctl 87) :
    Calls Tryz.prog 98 #[.pointer (some ⟨c, 0, none⟩), .int .u64 2101252] w fun e w' => e = .returned (.tuple #[.agg #[.func (.func 118) #[.agg #[.pointer (some ⟨c, 0, none⟩), .pointer (some ⟨c, 7, none⟩)]] #[], .func (.func 119) #[.agg #[.pointer (some ⟨c, 0, none⟩), .pointer (some ⟨c, 7, none⟩)]] #[]], .bool true]) ∧ Grew w w' := by
  go_enter Tryz.func98, Tryz.ntmps98
  go_upto_region 8 with fail
  have kr : Blk (w.alloc (.cells #[.nilFunc, .nilFunc] 126)) w.heap.size #[.nilFunc, .nilFunc] 126 := Blk.new _ _ _ _ rfl
  have kc := hb.alloc (.cells #[.nilFunc, .nilFunc] 126)
  have gr := (Grew.refl w).alloc (.cells #[.nilFunc, .nilFunc] 126)
  generalize w.alloc (.cells #[.nilFunc, .nilFunc] 126) = w1 at *
  generalize hRn : w.heap.size = R at kr ⊢
  have hR : w.heap.size ≤ R := by omega
  clear hRn
  go_wp2_with fail
  refine wp_loop_rounds 3 ?_
  rw [rounds_succ]
  go_wp2_with fail
  refine (lookNo_0 c 2101252 (by decide) (by decide) (by decide) kc).mono ?_
  rintro e w2 ⟨rfl, g2⟩
  go_upto_region 12 with fail
  have g3 := g2.alloc (.cells #[.nilFunc, .nilFunc] 126)
  have kr3 := kr.grew g3
  have kc3 := kc.grew g3
  have gr3 := gr.trans g3
  clear kr kc gr g2 g3
  generalize w2.alloc (.cells #[.nilFunc, .nilFunc] 126) = w3 at *
  go_wp2_with fail
  rw [rounds_succ]
  go_wp2_with fail
  refine (lookAt_9 c kc3).mono ?_
  rintro e w4 ⟨rfl, g4⟩
  go_upto_region 12 with fail
  have k8 : Blk (w4.alloc (.cells #[.func (.func 118) #[.agg #[.pointer (some ⟨c, 0, none⟩), .pointer (some ⟨c, 7, none⟩)]] #[], .func (.func 119) #[.agg #[.pointer (some ⟨c, 0, none⟩), .pointer (some ⟨c, 7, none⟩)]] #[]] 126)) w4.heap.size #[.func (.func 118) #[.agg #[.pointer (some ⟨c, 0, none⟩), .pointer (some ⟨c, 7, none⟩)]] #[], .func (.func 119) #[.agg #[.pointer (some ⟨c, 0, none⟩), .pointer (some ⟨c, 7, none⟩)]] #[]] 126 := Blk.new _ _ _ _ rfl
  have g5 := g4.alloc (.cells #[.func (.func 118) #[.agg #[.pointer (some ⟨c, 0, none⟩), .pointer (some ⟨c, 7, none⟩)]] #[], .func (.func 119) #[.agg #[.pointer (some ⟨c, 0, none⟩), .pointer (some ⟨c, 7, none⟩)]] #[]] 126)
  have kr5 := kr3.grew g5
  have gr5 := gr3.trans g5
  clear kr3 kc3 gr3 g4 g5
  generalize w4.alloc (.cells #[.func (.func 118) #[.agg #[.pointer (some ⟨c, 0, none⟩), .pointer (some ⟨c, 7, none⟩)]] #[], .func (.func 119) #[.agg #[.pointer (some ⟨c, 0, none⟩), .pointer (some ⟨c, 7, none⟩)]] #[]] 126) = w5 at *
  generalize w4.heap.size = Y at *
  have x0 := k8.cell 0
  have x1 := k8.cell 1
  have c0 := kr5.cell 0
  have c1 := kr5.cell 1
  have f0 := kr5.free 0
  have f1 := kr5.free 1
  go_wp2_with fail
  clear x0 x1 c0 c1 f0 f1 k8
  have ky := (kr5.set (o := 0) (.func (.func 118) #[.agg #[.pointer (some ⟨c, 0, none⟩), .pointer (some ⟨c, 7, none⟩)]] #[])).set (o := 1) (.func (.func 119) #[.agg #[.pointer (some ⟨c, 0, none⟩), .pointer (some ⟨c, 7, none⟩)]] #[])
  have gy := (gr5.setCell (b := R) (o := 0) (by omega) (.func (.func 118) #[.agg #[.pointer (some ⟨c, 0, none⟩), .pointer (some ⟨c, 7, none⟩)]] #[])).setCell (b := R) (o := 1) (by omega) (.func (.func 119) #[.agg #[.pointer (some ⟨c, 0, none⟩), .pointer (some ⟨c, 7, none⟩)]] #[])
  generalize (w5.setCell ⟨R, 0, none⟩ (.func (.func 118) #[.agg #[.pointer (some ⟨c, 0, none⟩), .pointer (some ⟨c, 7, none⟩)]] #[])).setCell ⟨R, 1, none⟩ (.func (.func 119) #[.agg #[.pointer (some ⟨c, 0, none⟩), .pointer (some ⟨c, 7, none⟩)]] #[]) = wy at *
  have y0 := ky.cell 0
  have y1 := ky.cell 1
  exact bodyPost_ret (v := .tuple #[.agg #[.func (.func 118) #[.agg #[.pointer (some ⟨c, 0, none⟩), .pointer (some ⟨c, 7, none⟩)]] #[], .func (.func 119) #[.agg #[.pointer (some ⟨c, 0, none⟩), .pointer (some ⟨c, 7, none⟩)]] #[]], .bool true]) (by simp [results, Tryz.results98, go_sem, y0, y1]) rfl ⟨rfl, gy⟩
set_option maxHeartbeats 1000000 in
theorem look_no (c : Nat) (off : Int) (h1 : off ≠ 4) (h2 : off ≠ 8) (h3 : off ≠ 4096) (h4 : off ≠ 8192) (h5 : off ≠ 8320) (h6 : off ≠ 2097152) (h7 : off ≠ 2101248) (h8 : off ≠ 2097156) (h9 : off ≠ 2101252) {s : VS} {w : World} (hb : Blk w c s.ctl 87) :
    Calls Tryz.prog 98 #[.pointer (some ⟨c, 0, none⟩), .int .u64 off] w fun e w' => e = .returned (.tuple #[.agg #[.nilFunc, .nilFunc], .bool false]) ∧ Grew w w' := by
  have hA := fun (w : World) (h : Blk w c s.ctl 87) => lookNo_0 c off h4 h6 h8 h
  have hB := fun (w : World) (h : Blk w c s.ctl 87) => lookNo_1 c off h5 h7 h9 h
  have HA := Lib.hid hA
  have HB := Lib.hid hB
  have e1 : (off == 4) = false := by simpa using h1
  have e2 : (off == 8) = false := by simpa using h2
  have e3 : (off == 4096) = false := by simpa using h3
  clear hA hB h1 h2 h3 h4 h5 h6 h7 h8 h9
  go_enter Tryz.func98, Tryz.ntmps98
  go_upto_region 8 with fail
  have kr : Blk (w.alloc (.cells #[.nilFunc, .nilFunc] 126)) w.heap.size #[.nilFunc, .nilFunc] 126 := Blk.new _ _ _ _ rfl
  have kc := hb.alloc (.cells #[.nilFunc, .nilFunc] 126)
  have gr := (Grew.refl w).alloc (.cells #[.nilFunc, .nilFunc] 126)
  generalize w.alloc (.cells #[.nilFunc, .nilFunc] 126) = w1 at *
  generalize hRn : w.heap.size = R at kr ⊢
  have hR : w.heap.size ≤ R := by omega
  clear hRn
  go_wp2_with fail
  refine wp_loop_rounds 3 ?_
  rw [rounds_succ]
  go_wp2_with fail
  refine (HA.out _ kc).mono ?_
  rintro e w2 ⟨rfl, g2⟩
  go_upto_region 12 with fail
  have g3 := g2.alloc (.cells #[.nilFunc, .nilFunc] 126)
  have kr2 := kr.grew g3
  have kc2 := kc.grew g3
  have gr2 := gr.trans g3
  clear kr kc gr g2 g3
  generalize w2.alloc (.cells #[.nilFunc, .nilFunc] 126) = w3 at *
  go_wp2_with fail
  rw [rounds_succ]
  go_wp2_with fail
  refine (HB.out _ kc2).mono ?_
  rintro e w4 ⟨rfl, g4⟩
  go_upto_region 12 with fail
  have g5 := g4.alloc (.cells #[.nilFunc, .nilFunc] 126)
  have kr4 := kr2.grew g5
  have kc4 := kc2.grew g5
  have gr4 := gr2.trans g5
  clear kr2 kc2 gr2 g4 g5
  generalize w4.alloc (.cells #[.nilFunc, .nilFunc] 126) = w5 at *
  go_wp2_with fail
  rw [rounds_succ]
  have c0 := kr4.cell 0
  have c1 := kr4.cell 1
  have f0 := kr4.free 0
  have f1 := kr4.free 1
  go_wp2_with fail
  clear c0 c1 f0 f1
  have ky := (kr4.set (o := 0) (.nilFunc)).set (o := 1) (.nilFunc)
  have gy := (gr4.setCell (b := R) (o := 0) (by omega) (.nilFunc)).setCell (b := R) (o := 1) (by omega) (.nilFunc)
  generalize (w5.setCell ⟨R, 0, none⟩ (.nilFunc)).setCell ⟨R, 1, none⟩ (.nilFunc) = wy at *
  have y0 := ky.cell 0
  have y1 := ky.cell 1
  exact bodyPost_ret (v := .tuple #[.agg #[.nilFunc, .nilFunc], .bool false]) (by simp [results, Tryz.results98, go_sem, y0, y1]) rfl ⟨rfl, gy⟩
end Go.Proofs.YtgcfmijkggpemaaGreat
