/-
  Package clint: Store where there is something; the document's own Load, put, Store, Tick, Lines, to the same answers.
-/
import Derived.Test.YtgcfmijkggpemaaGreatClD
set_option maxRecDepth 4000
set_option linter.unusedVariables false
set_option linter.unusedSimpArgs false
namespace Go.Proofs.YtgcfmijkggpemaaGreat
open Go.RowKit

set_option maxHeartbeats 1000000 in
theorem clStore_yes {T C : Int} (hT : 0 ≤ T ∧ T < 18446744073709551616) (hC : 0 ≤ C ∧ C < 18446744073709551616) (S : Bool) {off size p l n : Int} (x : Int) (hx : 0 ≤ x ∧ x < 18446744073709551616) (h : Spot off size p l n) {W w : World} (g : Grew W w) :
    Calls Tryz.prog 48 #[.agg #[.int .u64 T, .int .u64 C, .bool S], .int .u64 off, .int .i64 size, .int .u64 x] w fun e w' => e = .returned (.tuple #[.agg #[.int .u64 (withT T (putV (regV T C S p) x l n) p), .int .u64 (withC C (putV (regV T C S p) x l n) p), .bool (withS S (putV (regV T C S p) x l n) p)], .bool true]) ∧ Grew W w' := by
  have hgs := g.size
  have hr := regV_lt hT hC S p
  have hk := h.kinds
  have hp : p = 0 ∨ p = 16384 ∨ p = 49144 := by unfold Spot at h; omega
  have hF := fun W w (g : Grew W w) => clFind_yes h g
  have hR := fun W w (g : Grew W w) => register_c T C S p _ (show regV T C S p = _ from rfl) g
  have hO := fun W w (g : Grew W w) => clPut_c p l n (regV T C S p) x hk hr.1 hr.2 hx.1 hx.2 g
  have hW := fun W w (g : Grew W w) => clWith_c T C S (putV (regV T C S p) x l n) p hp g
  have HF := Lib.hid hF
  have HR := Lib.hid hR
  have HO := Lib.hid hO
  have HW := Lib.hid hW
  clear hF hR hO hW hr hk hp h hT hC hx
  generalize regV T C S p = v at *
  generalize putV v x l n = u at *
  generalize withT T u p = T' at *
  generalize withC C u p = C' at *
  generalize withS S u p = S' at *
  go_enter Tryz.func48, Tryz.ntmps48
  go_upto_region 1 with fail
  have kb : Blk ((w.alloc (.cells #[.int .u64 T, .int .u64 C, .bool S] 27)).alloc (.cells #[.int .u64 0, .int .u64 0, .bool false] 27)) w.heap.size #[.int .u64 T, .int .u64 C, .bool S] 27 := (Blk.new _ _ _ _ rfl).alloc _
  have kr : Blk ((w.alloc (.cells #[.int .u64 T, .int .u64 C, .bool S] 27)).alloc (.cells #[.int .u64 0, .int .u64 0, .bool false] 27)) (w.heap.size + 1) #[.int .u64 0, .int .u64 0, .bool false] 27 := Blk.new _ _ _ _ (by simp)
  have g0 : Grew W ((w.alloc (.cells #[.int .u64 T, .int .u64 C, .bool S] 27)).alloc (.cells #[.int .u64 0, .int .u64 0, .bool false] 27)) := (g.alloc _).alloc _
  generalize ((w.alloc (.cells #[.int .u64 T, .int .u64 C, .bool S] 27)).alloc (.cells #[.int .u64 0, .int .u64 0, .bool false] 27)) = w0 at *
  generalize w.heap.size = D at *
  generalize hE : D + 1 = E at *
  go_upto_region 2 with (go_at_call 72; refine (HF.out w0 _ (Grew.refl _)).mono ?_; rintro e w1 ⟨rfl, g1⟩)
  have kp : Blk (w1.alloc (.cells #[.int .u64 p, .int .i64 l, .int .i64 n] 116)) w1.heap.size #[.int .u64 p, .int .i64 l, .int .i64 n] 116 := Blk.new _ _ _ _ rfl
  have g2 : Grew w0 (w1.alloc (.cells #[.int .u64 p, .int .i64 l, .int .i64 n] 116)) := g1.alloc _
  generalize (w1.alloc (.cells #[.int .u64 p, .int .i64 l, .int .i64 n] 116)) = w2 at *
  generalize w1.heap.size = F at *
  have kc := kb.grew g2
  have kr2 := kr.grew g2
  have y0 := fun z : Over w2 => kc.overCell 0 _ rfl z
  have y1 := fun z : Over w2 => kc.overCell 1 _ rfl z
  have y2 := fun z : Over w2 => kc.overCell 2 _ rfl z
  have x0 := fun z : Over w2 => kp.overCell 0 _ rfl z
  have x1 := fun z : Over w2 => kp.overCell 1 _ rfl z
  have x2 := fun z : Over w2 => kp.overCell 2 _ rfl z
  go_wp2_with fail
  refine region_over_tail 11 (by kernel_rfl) (by kernel_rfl) ?_
  simp only [List.take_succ_cons, List.take_zero, List.drop_succ_cons, List.drop_zero]
  repeat (first | go_big_quiet_step ((first | (go_at_call 74; with_reducible exact over_eq (HR.out _ _ (Over.g _))) | (go_at_call 76; with_reducible exact over_eq (HO.out _ _ (Over.g _))) | (go_at_call 75; with_reducible exact over_eq (HW.out _ _ (Over.g _))))) | quiet_step ((first | (go_at_call 74; with_reducible exact over_eq (HR.out _ _ (Over.g _))) | (go_at_call 76; with_reducible exact over_eq (HO.out _ _ (Over.g _))) | (go_at_call 75; with_reducible exact over_eq (HW.out _ _ (Over.g _))))))
  refine wpQuiet_nil ?_
  intro z
  have g3 := (g0.trans g2).trans z.g
  have k3 := kr2.over z
  clear y0 y1 y2 x0 x1 x2
  generalize z.w = w3 at *
  have d0 := k3.cell 0
  have d1 := k3.cell 1
  have d2 := k3.cell 2
  have f0 := k3.free 0
  have f1 := k3.free 1
  have f2 := k3.free 2
  go_wp2_with fail
  have kz := ((k3.set (o := 0) (.int .u64 T')).set (o := 1) (.int .u64 C')).set (o := 2) (.bool S')
  have gz := ((g3.setCell (b := E) (o := 0) (by omega) (.int .u64 T')).setCell (b := E) (o := 1) (by omega) (.int .u64 C')).setCell (b := E) (o := 2) (by omega) (.bool S')
  generalize ((w3.setCell ⟨E, 0, none⟩ (.int .u64 T')).setCell ⟨E, 1, none⟩ (.int .u64 C')).setCell ⟨E, 2, none⟩ (.bool S') = wz at *
  have z0 := kz.cell 0
  have z1 := kz.cell 1
  have z2 := kz.cell 2
  exact bodyPost_ret (v := .tuple #[.agg #[.int .u64 T', .int .u64 C', .bool S'], .bool true]) (by simp [results, Tryz.results48, go_sem, z0, z1, z2]) rfl ⟨rfl, gz⟩

/-! ### The document's own -/
theorem ret_pair {a b : Int} {c : Bool} (h : a = b) : Ending.returned (.tuple #[.int .u64 a, .bool c]) = .returned (.tuple #[.int .u64 b, .bool c]) := by rw [h]
end Go.Proofs.YtgcfmijkggpemaaGreat
