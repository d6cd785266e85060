/-
  Package clint: Load, Store, in one contract each; and the document's own, to the same answers.
-/
import Derived.Test.YtgcfmijkggpemaaGreatClB
import Derived.Test.YtgcfmijkggpemaaGreatClC
set_option maxRecDepth 4000
set_option linter.unusedVariables false
set_option linter.unusedSimpArgs false
namespace Go.Proofs.YtgcfmijkggpemaaGreat
open Go.RowKit

/-- Which part of which register the size bytes at off are: place, lowest bit, how many. -/
def Spot (off size p l n : Int) : Prop :=
  (off = 0 ∧ size = 4 ∧ p = 0 ∧ l = 0 ∧ n = 1) ∨ (off = 16384 ∧ size = 4 ∧ p = 16384 ∧ l = 0 ∧ n = 32) ∨ (off = 16388 ∧ size = 4 ∧ p = 16384 ∧ l = 32 ∧ n = 32) ∨ (off = 49144 ∧ size = 4 ∧ p = 49144 ∧ l = 0 ∧ n = 32) ∨ (off = 49148 ∧ size = 4 ∧ p = 49144 ∧ l = 32 ∧ n = 32) ∨
  (off = 16384 ∧ size = 8 ∧ p = 16384 ∧ l = 0 ∧ n = 64) ∨ (off = 49144 ∧ size = 8 ∧ p = 49144 ∧ l = 0 ∧ n = 64)
def NoSpot (off size : Int) : Prop := (size ≠ 4 ∧ size ≠ 8) ∨ (size = 4 ∧ off ≠ 0 ∧ off ≠ 16384 ∧ off ≠ 16388 ∧ off ≠ 49144 ∧ off ≠ 49148) ∨ (size = 8 ∧ off ≠ 16384 ∧ off ≠ 49144)
theorem spot_or (off size : Int) : (∃ p l n, Spot off size p l n) ∨ NoSpot off size := by
  by_cases h4 : size = 4
  · by_cases h0 : off = 0
    · exact .inl ⟨_, _, _, .inl ⟨h0, h4, rfl, rfl, rfl⟩⟩
    by_cases h1 : off = 16384
    · exact .inl ⟨_, _, _, .inr (.inl ⟨h1, h4, rfl, rfl, rfl⟩)⟩
    by_cases h2 : off = 16388
    · exact .inl ⟨_, _, _, .inr (.inr (.inl ⟨h2, h4, rfl, rfl, rfl⟩))⟩
    by_cases h3 : off = 49144
    · exact .inl ⟨_, _, _, .inr (.inr (.inr (.inl ⟨h3, h4, rfl, rfl, rfl⟩)))⟩
    by_cases h5 : off = 49148
    · exact .inl ⟨_, _, _, .inr (.inr (.inr (.inr (.inl ⟨h5, h4, rfl, rfl, rfl⟩))))⟩
    exact .inr (.inr (.inl ⟨h4, h0, h1, h2, h3, h5⟩))
  · by_cases h8 : size = 8
    · by_cases h1 : off = 16384
      · exact .inl ⟨_, _, _, .inr (.inr (.inr (.inr (.inr (.inl ⟨h1, h8, rfl, rfl, rfl⟩)))))⟩
      by_cases h3 : off = 49144
      · exact .inl ⟨_, _, _, .inr (.inr (.inr (.inr (.inr (.inr ⟨h3, h8, rfl, rfl, rfl⟩)))))⟩
      exact .inr (.inr (.inr ⟨h8, h1, h3⟩))
    · exact .inr (.inl ⟨h4, h8⟩)
theorem Spot.kinds {off size p l n : Int} (h : Spot off size p l n) : Kinds l n := by unfold Spot at h; unfold Kinds; omega

theorem clFind_yes {off size p l n : Int} (h : Spot off size p l n) {W w : World} (g : Grew W w) :
    Calls Tryz.prog 72 #[.int .u64 off, .int .i64 size] w fun e w' => e = .returned (.tuple #[.agg #[.int .u64 p, .int .i64 l, .int .i64 n], .bool true]) ∧ Grew W w' := by
  rcases h with ⟨rfl, rfl, rfl, rfl, rfl⟩ | ⟨rfl, rfl, rfl, rfl, rfl⟩ | ⟨rfl, rfl, rfl, rfl, rfl⟩ | ⟨rfl, rfl, rfl, rfl, rfl⟩ | ⟨rfl, rfl, rfl, rfl, rfl⟩ | ⟨rfl, rfl, rfl, rfl, rfl⟩ | ⟨rfl, rfl, rfl, rfl, rfl⟩
  · exact find_soft g
  · exact find_4 16384 0 (by omega) (by omega) (by omega) (by rw [and_four _ (by omega) (by omega)]; decide) (by omega) (by omega) g
  · exact find_4 16388 4 (by omega) (by omega) (by omega) (by rw [and_four _ (by omega) (by omega)]; decide) (by omega) (by omega) g
  · exact find_4 49144 0 (by omega) (by omega) (by omega) (by rw [and_four _ (by omega) (by omega)]; decide) (by omega) (by omega) g
  · exact find_4 49148 4 (by omega) (by omega) (by omega) (by rw [and_four _ (by omega) (by omega)]; decide) (by omega) (by omega) g
  · exact find_8 16384 (by omega) (by omega) g
  · exact find_8 49144 (by omega) (by omega) g
theorem clFind_none {off size : Int} (h0 : 0 ≤ off) (h1 : off < 18446744073709551616) (h : NoSpot off size) {W w : World} (g : Grew W w) :
    Calls Tryz.prog 72 #[.int .u64 off, .int .i64 size] w fun e w' => (∃ p l n, e = .returned (.tuple #[.agg #[.int .u64 p, .int .i64 l, .int .i64 n], .bool false])) ∧ Grew W w' := by
  rcases h with ⟨h4, h8⟩ | ⟨rfl, n0, n1, n2, n3, n4⟩ | ⟨rfl, n1, n2⟩
  · exact (clFind_no off size h4 h8 g).mono fun e w' ⟨he, hg⟩ => ⟨⟨_, _, _, he⟩, hg⟩
  · have ha := and_four off h0 h1
    refine (find_4 off (4 * (off / 4 % 2)) h0 h1 n0 ha (by omega) (by omega) g).mono fun e w' ⟨he, hg⟩ => ?_
    have e1 : (off - 4 * (off / 4 % 2) == 16384) = false := by rw [beq_eq_false_iff_ne]; omega
    have e2 : (off - 4 * (off / 4 % 2) == 49144) = false := by rw [beq_eq_false_iff_ne]; omega
    rw [e1, e2] at he
    exact ⟨⟨_, _, _, he⟩, hg⟩
  · refine (find_8 off h0 h1 g).mono fun e w' ⟨he, hg⟩ => ?_
    have e1 : (off == 16384) = false := by rw [beq_eq_false_iff_ne]; omega
    have e2 : (off == 49144) = false := by rw [beq_eq_false_iff_ne]; omega
    rw [e1, e2] at he
    exact ⟨⟨_, _, _, he⟩, hg⟩

/-! ### Load, Store -/
/-- What stands in the register at p. -/
def regV (T C : Int) (S : Bool) (p : Int) : Int := if p = 16384 then C else if p = 49144 then T else if p = 0 then (if S = true then 1 else 0) else 0
theorem regV_lt {T C : Int} (hT : 0 ≤ T ∧ T < 18446744073709551616) (hC : 0 ≤ C ∧ C < 18446744073709551616) (S : Bool) (p : Int) : 0 ≤ regV T C S p ∧ regV T C S p < 18446744073709551616 := by
  unfold regV
  cases S
  all_goals repeat (first | split | omega | simp)
theorem clLoad_yes {T C : Int} (hT : 0 ≤ T ∧ T < 18446744073709551616) (hC : 0 ≤ C ∧ C < 18446744073709551616) (S : Bool) {off size p l n : Int} (h : Spot off size p l n) {W w : World} (g : Grew W w) :
    Calls Tryz.prog 46 #[.agg #[.int .u64 T, .int .u64 C, .bool S], .int .u64 off, .int .i64 size] w fun e w' => e = .returned (.tuple #[.int .u64 (fieldV (regV T C S p) (l + n - 1) l), .bool true]) ∧ Grew W w' := by
  have hgs := g.size
  have hr := regV_lt hT hC S p
  have hk := h.kinds
  have hF := fun W w (g : Grew W w) => clFind_yes h g
  have hR := fun W w (g : Grew W w) => register_c T C S p _ (show regV T C S p = _ from rfl) g
  have hO := fun W w (g : Grew W w) => of_c p l n (regV T C S p) (by unfold Kinds at hk; omega) (by unfold Kinds at hk; omega) (by unfold Kinds at hk; omega) (by unfold Kinds at hk; omega) hr.1 hr.2 g
  have HF := Lib.hid hF
  have HR := Lib.hid hR
  have HO := Lib.hid hO
  clear hF hR hO hr hk h hT hC
  generalize regV T C S p = v at *
  generalize fieldV v (l + n - 1) l = u at *
  go_enter Tryz.func46, Tryz.ntmps46
  go_upto_region 1 with fail
  have kb : Blk (w.alloc (.cells #[.int .u64 T, .int .u64 C, .bool S] 27)) w.heap.size #[.int .u64 T, .int .u64 C, .bool S] 27 := Blk.new _ _ _ _ rfl
  have g0 : Grew W (w.alloc (.cells #[.int .u64 T, .int .u64 C, .bool S] 27)) := g.alloc _
  generalize (w.alloc (.cells #[.int .u64 T, .int .u64 C, .bool S] 27)) = w0 at *
  generalize w.heap.size = D at *
  go_upto_region 2 with (go_at_call 72; refine (HF.out w0 w0 (Grew.refl w0)).mono ?_; rintro e w1 ⟨rfl, g1⟩)
  have kp : Blk (w1.alloc (.cells #[.int .u64 p, .int .i64 l, .int .i64 n] 116)) w1.heap.size #[.int .u64 p, .int .i64 l, .int .i64 n] 116 := Blk.new _ _ _ _ rfl
  have g2 : Grew w0 (w1.alloc (.cells #[.int .u64 p, .int .i64 l, .int .i64 n] 116)) := g1.alloc _
  generalize (w1.alloc (.cells #[.int .u64 p, .int .i64 l, .int .i64 n] 116)) = w2 at *
  generalize w1.heap.size = E at *
  have kc := kb.grew g2
  have y0 := fun z : Over w2 => kc.overCell 0 _ rfl z
  have y1 := fun z : Over w2 => kc.overCell 1 _ rfl z
  have y2 := fun z : Over w2 => kc.overCell 2 _ rfl z
  have x0 := fun z : Over w2 => kp.overCell 0 _ rfl z
  have x1 := fun z : Over w2 => kp.overCell 1 _ rfl z
  have x2 := fun z : Over w2 => kp.overCell 2 _ rfl z
  go_wp2_with fail
  refine region_over (by kernel_rfl) (by kernel_rfl) ?_
  repeat (first | go_big_quiet_step ((first | (go_at_call 74; with_reducible exact over_eq (HR.out _ _ (Over.g _))) | (go_at_call 73; with_reducible exact over_eq (HO.out _ _ (Over.g _))))) | quiet_step ((first | (go_at_call 74; with_reducible exact over_eq (HR.out _ _ (Over.g _))) | (go_at_call 73; with_reducible exact over_eq (HO.out _ _ (Over.g _))))))
  refine wpQuiet_nil ?_
  intro z
  have gz := (g0.trans g2).trans z.g
  go_wp2_with fail
  go_returns
  exact ⟨rfl, gz⟩
theorem clLoad_no (T C : Int) (S : Bool) {off size : Int} (h0 : 0 ≤ off) (h1 : off < 18446744073709551616) (h : NoSpot off size) {W w : World} (g : Grew W w) :
    Calls Tryz.prog 46 #[.agg #[.int .u64 T, .int .u64 C, .bool S], .int .u64 off, .int .i64 size] w fun e w' => e = .returned (.tuple #[.int .u64 0, .bool false]) ∧ Grew W w' := by
  have hgs := g.size
  have hF := fun W w (g : Grew W w) => clFind_none h0 h1 h g
  have HF := Lib.hid hF
  clear hF h h0 h1
  go_enter Tryz.func46, Tryz.ntmps46
  go_wp2_with (go_at_call 72; refine (HF.out W _ (g.alloc _)).mono ?_; rintro e w1 ⟨⟨p, l, n, rfl⟩, g1⟩)
  go_returns
  exact ⟨rfl, g1.alloc _⟩
theorem clStore_no (T C : Int) (S : Bool) {off size : Int} (x : Int) (h0 : 0 ≤ off) (h1 : off < 18446744073709551616) (h : NoSpot off size) {W w : World} (g : Grew W w) :
    Calls Tryz.prog 48 #[.agg #[.int .u64 T, .int .u64 C, .bool S], .int .u64 off, .int .i64 size, .int .u64 x] w fun e w' => e = .returned (.tuple #[.agg #[.int .u64 T, .int .u64 C, .bool S], .bool false]) ∧ Grew W w' := by
  have hgs := g.size
  have hF := fun W w (g : Grew W w) => clFind_none h0 h1 h g
  have HF := Lib.hid hF
  clear hF h h0 h1
  go_enter Tryz.func48, Tryz.ntmps48
  go_upto_region 1 with fail
  have kb : Blk ((w.alloc (.cells #[.int .u64 T, .int .u64 C, .bool S] 27)).alloc (.cells #[.int .u64 0, .int .u64 0, .bool false] 27)) w.heap.size #[.int .u64 T, .int .u64 C, .bool S] 27 := (Blk.new _ _ _ _ rfl).alloc _
  have kr : Blk ((w.alloc (.cells #[.int .u64 T, .int .u64 C, .bool S] 27)).alloc (.cells #[.int .u64 0, .int .u64 0, .bool false] 27)) (w.heap.size + 1) #[.int .u64 0, .int .u64 0, .bool false] 27 := Blk.new _ _ _ _ (by simp)
  have g0 : Grew W ((w.alloc (.cells #[.int .u64 T, .int .u64 C, .bool S] 27)).alloc (.cells #[.int .u64 0, .int .u64 0, .bool false] 27)) := (g.alloc _).alloc _
  generalize ((w.alloc (.cells #[.int .u64 T, .int .u64 C, .bool S] 27)).alloc (.cells #[.int .u64 0, .int .u64 0, .bool false] 27)) = w0 at *
  have hne : w.heap.size ≠ w.heap.size + 1 := by omega
  generalize w.heap.size = D at *
  generalize hE : D + 1 = E at *
  go_upto_region 3 with (go_at_call 72; refine (HF.out w0 _ (Grew.refl _)).mono ?_; rintro e w1 ⟨⟨p, l, n, rfl⟩, g1⟩)
  have g2 : Grew w0 (w1.alloc (.cells #[.int .u64 p, .int .i64 l, .int .i64 n] 116)) := g1.alloc _
  generalize (w1.alloc (.cells #[.int .u64 p, .int .i64 l, .int .i64 n] 116)) = w2 at *
  have kb2 := kb.grew g2
  have kr2 := kr.grew g2
  have c0 := kb2.cell 0
  have c1 := kb2.cell 1
  have c2 := kb2.cell 2
  have d0 := kr2.cell 0
  have d1 := kr2.cell 1
  have d2 := kr2.cell 2
  have f0 := kr2.free 0
  have f1 := kr2.free 1
  have f2 := kr2.free 2
  go_wp2_with fail
  have kz := ((kr2.set (o := 0) (.int .u64 T)).set (o := 1) (.int .u64 C)).set (o := 2) (.bool S)
  have gz := ((((g0.trans g2)).setCell (b := E) (o := 0) (by omega) (.int .u64 T)).setCell (b := E) (o := 1) (by omega) (.int .u64 C)).setCell (b := E) (o := 2) (by omega) (.bool S)
  generalize ((w2.setCell ⟨E, 0, none⟩ (.int .u64 T)).setCell ⟨E, 1, none⟩ (.int .u64 C)).setCell ⟨E, 2, none⟩ (.bool S) = wz at *
  have z0 := kz.cell 0
  have z1 := kz.cell 1
  have z2 := kz.cell 2
  exact bodyPost_ret (v := .tuple #[.agg #[.int .u64 T, .int .u64 C, .bool S], .bool false]) (by simp [results, Tryz.results48, go_sem, z0, z1, z2]) rfl ⟨rfl, gz⟩
/-- A timer with x in the register at p. -/
def withT (T x p : Int) : Int := if p = 49144 then x else T
def withC (C x p : Int) : Int := if p = 16384 then x else C
def withS (S : Bool) (x p : Int) : Bool := if p = 0 then x == 1 else S
theorem clWith_c (T C : Int) (S : Bool) (x p : Int) (hp : p = 0 ∨ p = 16384 ∨ p = 49144) {W w : World} (g : Grew W w) :
    Calls Tryz.prog 75 #[.agg #[.int .u64 T, .int .u64 C, .bool S], .int .u64 p, .int .u64 x] w fun e w' => e = .returned (.agg #[.int .u64 (withT T x p), .int .u64 (withC C x p), .bool (withS S x p)]) ∧ Grew W w' := by
  rcases hp with rfl | rfl | rfl
  · exact with_soft T C S x g
  · exact with_cmp T C S x g
  · exact with_time T C S x g
end Go.Proofs.YtgcfmijkggpemaaGreat
