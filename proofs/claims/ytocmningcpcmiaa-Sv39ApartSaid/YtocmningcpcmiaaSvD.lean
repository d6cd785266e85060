/-
  Contracts of the document's own pages: Translate.
-/
import Derived.Test.YtocmningcpcmiaaSvC
import Derived.Test.YtocmningcpcmiaaRamE
import Derived.Test.YtocmningcpcmiaaClass
import Derived.WalkKit
import Derived.Outline
import Derived.Handy
import Derived.Deep.QuietTactic
import Derived.BigQuiet
import Derived.Deep.DeepCutAuto
set_option linter.unusedVariables false
set_option linter.unusedSimpArgs false
namespace Go.Proofs.Ytocmningcpcmiaa
open Go.RowKit

/-- The calls' end: s is what pages answer. -/
def SvEnds (s : Sv) (W : World) (e : Ending) (w' : World) : Prop := ∃ u, e = .returned (.tuple #[.int .u64 s.addr, .agg #[u], .int .i64 s.cause, .bool s.ok]) ∧ Buf w' u s.mem ∧ Grew W w'

theorem SvEnds.of {s S : Sv} (h : s = S) {W w' : World} {e : Ending} (he : SvEnds s W e w') : SvEnds S W e w' := h ▸ he
theorem SvEnds.mk {s : Sv} {W w' : World} {u : Value} (hb : Buf w' u s.mem) (hg : Grew W w') : SvEnds s W (.returned (.tuple #[.int .u64 s.addr, .agg #[u], .int .i64 s.cause, .bool s.ok])) w' := ⟨u, rfl, hb, hg⟩

set_option maxRecDepth 100000 in
set_option maxHeartbeats 1000000 in
theorem refTrans_m {a : Option Addr} {n c : Nat} {xs : List Int} (satp status priv x kind : Int) (hp : 3 ≤ priv) (w : World) (hb : Buf w (.slice a n c) xs) :
    Calls Try.prog 10 #[.agg #[.slice a n c], .int .u64 satp, .int .u64 status, .int .i64 priv, .int .u64 x, .int .i64 kind] w (SvEnds ⟨x, xs, 0, true⟩ w) := by
  have HB := Lib.hid hb
  clear hb
  go_enter Try.func10, Try.ntmps10
  go_upto_region 1 with fail
  have hB0 : Blk ((w.alloc (.cells #[.slice a n c] 24)).alloc (.cells #[.slice none 0 0] 24)) w.heap.size #[.slice a n c] 24 := (Blk.new _ _ _ _ rfl).alloc _
  have hR0 : Blk ((w.alloc (.cells #[.slice a n c] 24)).alloc (.cells #[.slice none 0 0] 24)) (w.heap.size + 1) #[.slice none 0 0] 24 := Blk.new _ _ _ _ (by simp)
  have g0 : Grew w ((w.alloc (.cells #[.slice a n c] 24)).alloc (.cells #[.slice none 0 0] 24)) := ((Grew.refl w).alloc _).alloc _
  generalize ((w.alloc (.cells #[.slice a n c] 24)).alloc (.cells #[.slice none 0 0] 24)) = w0 at *
  go_upto_region 2 with fail
  have yB : ∀ z : Over w0, z.w.cell? ⟨w.heap.size, 0, none⟩ = some (.slice a n c) := fun z => hB0.overCell 0 _ rfl z
  refine region_over_tail 3 (by kernel_rfl) (by kernel_rfl) ?_
  simp only [List.take_succ_cons, List.take_zero, List.drop_succ_cons, List.drop_zero]
  repeat (first | go_big_quiet_step (fail) | quiet_step (fail))
  refine wpQuiet_nil ?_
  intro z
  have gz := g0.trans z.g
  have hRz := hR0.over z
  generalize z.w = w1 at *
  clear yB z
  have cR := hRz.cell 0
  have fR := hRz.free 0
  go_wp2_with fail
  have hset := (hRz.set (o := 0) (.slice a n c)).cell 0
  exact bodyPost_ret (v := .tuple #[.int .u64 x, .agg #[.slice a n c], .int .i64 0, .bool true]) (by simp [results, Try.results10, go_sem, hset]) rfl (SvEnds.mk (s := ⟨x, xs, 0, true⟩) ((HB.out.grew gz).store hRz _) (gz.setCell (Nat.le_succ _) _))

set_option maxRecDepth 100000 in
set_option maxHeartbeats 1000000 in
theorem refTrans_o {a : Option Addr} {n c : Nat} {xs : List Int} (satp status priv x kind : Int) (hp : priv < 3) (hs0 : 0 ≤ satp) (hs1 : satp < 18446744073709551616) (hm : (fieldV satp 63 60 != 8) = true) (w : World) (hb : Buf w (.slice a n c) xs) :
    Calls Try.prog 10 #[.agg #[.slice a n c], .int .u64 satp, .int .u64 status, .int .i64 priv, .int .u64 x, .int .i64 kind] w (SvEnds ⟨x, xs, 0, true⟩ w) := by
  have HB := Lib.hid hb
  clear hb
  go_enter Try.func10, Try.ntmps10
  go_upto_region 1 with fail
  have hB0 : Blk ((w.alloc (.cells #[.slice a n c] 24)).alloc (.cells #[.slice none 0 0] 24)) w.heap.size #[.slice a n c] 24 := (Blk.new _ _ _ _ rfl).alloc _
  have hR0 : Blk ((w.alloc (.cells #[.slice a n c] 24)).alloc (.cells #[.slice none 0 0] 24)) (w.heap.size + 1) #[.slice none 0 0] 24 := Blk.new _ _ _ _ (by simp)
  have g0 : Grew w ((w.alloc (.cells #[.slice a n c] 24)).alloc (.cells #[.slice none 0 0] 24)) := ((Grew.refl w).alloc _).alloc _
  generalize ((w.alloc (.cells #[.slice a n c] 24)).alloc (.cells #[.slice none 0 0] 24)) = w0 at *
  go_upto_region 2 with (go_at_call 30; refine (ref8f_c _ _ _ (by assumption) (by assumption) _).mono ?_; rintro e' w' ⟨rfl, rfl⟩)
  have yB : ∀ z : Over w0, z.w.cell? ⟨w.heap.size, 0, none⟩ = some (.slice a n c) := fun z => hB0.overCell 0 _ rfl z
  refine region_over_tail 3 (by kernel_rfl) (by kernel_rfl) ?_
  simp only [List.take_succ_cons, List.take_zero, List.drop_succ_cons, List.drop_zero]
  repeat (first | go_big_quiet_step (fail) | quiet_step (fail))
  refine wpQuiet_nil ?_
  intro z
  have gz := g0.trans z.g
  have hRz := hR0.over z
  generalize z.w = w1 at *
  clear yB z
  have cR := hRz.cell 0
  have fR := hRz.free 0
  go_wp2_with fail
  have hset := (hRz.set (o := 0) (.slice a n c)).cell 0
  exact bodyPost_ret (v := .tuple #[.int .u64 x, .agg #[.slice a n c], .int .i64 0, .bool true]) (by simp [results, Try.results10, go_sem, hset]) rfl (SvEnds.mk (s := ⟨x, xs, 0, true⟩) ((HB.out.grew gz).store hRz _) (gz.setCell (Nat.le_succ _) _))

set_option maxRecDepth 100000 in
set_option maxHeartbeats 1000000 in
theorem refTrans_s {a : Option Addr} {n c : Nat} {xs : List Int} (satp status priv x kind : Int) (hp : priv < 3) (hs0 : 0 ≤ satp) (hs1 : satp < 18446744073709551616) (hx0 : 0 ≤ x) (hx1 : x < 18446744073709551616) (hm : (fieldV satp 63 60 != 8) = false) (hx : (sextV x 39 != x) = true) (w : World) (hb : Buf w (.slice a n c) xs) :
    Calls Try.prog 10 #[.agg #[.slice a n c], .int .u64 satp, .int .u64 status, .int .i64 priv, .int .u64 x, .int .i64 kind] w (SvEnds (noV xs kind true) w) := by
  have HB := Lib.hid hb
  clear hb
  go_enter Try.func10, Try.ntmps10
  go_upto_region 1 with fail
  have hB0 : Blk ((w.alloc (.cells #[.slice a n c] 24)).alloc (.cells #[.slice none 0 0] 24)) w.heap.size #[.slice a n c] 24 := (Blk.new _ _ _ _ rfl).alloc _
  have hR0 : Blk ((w.alloc (.cells #[.slice a n c] 24)).alloc (.cells #[.slice none 0 0] 24)) (w.heap.size + 1) #[.slice none 0 0] 24 := Blk.new _ _ _ _ (by simp)
  have g0 : Grew w ((w.alloc (.cells #[.slice a n c] 24)).alloc (.cells #[.slice none 0 0] 24)) := ((Grew.refl w).alloc _).alloc _
  generalize ((w.alloc (.cells #[.slice a n c] 24)).alloc (.cells #[.slice none 0 0] 24)) = w0 at *
  go_upto_region 4 with (first | (go_at_call 30; refine (ref8f_c _ _ _ (by assumption) (by assumption) _).mono ?_; rintro e' w' ⟨rfl, rfl⟩) | (go_at_call 31; refine (refSext_c _ _ (by assumption) (by assumption) _).mono ?_; rintro e' w' ⟨rfl, h'⟩; obtain rfl := h'.symm))
  have yB : ∀ z : Over w0, z.w.cell? ⟨w.heap.size, 0, none⟩ = some (.slice a n c) := fun z => hB0.overCell 0 _ rfl z
  refine region_over_tail 4 (by kernel_rfl) (by kernel_rfl) ?_
  simp only [List.take_succ_cons, List.take_zero, List.drop_succ_cons, List.drop_zero]
  repeat (first | go_big_quiet_step ((go_at_call 13; exact over_same (ref8Fault_c _ _ _))) | quiet_step ((go_at_call 13; exact over_same (ref8Fault_c _ _ _))))
  refine wpQuiet_nil ?_
  intro z
  have gz := g0.trans z.g
  have hRz := hR0.over z
  generalize z.w = w1 at *
  clear yB z
  have cR := hRz.cell 0
  have fR := hRz.free 0
  go_wp2_with fail
  have hset := (hRz.set (o := 0) (.slice a n c)).cell 0
  exact bodyPost_ret (v := .tuple #[.int .u64 0, .agg #[.slice a n c], .int .i64 (faultV kind true), .bool false]) (by simp [results, Try.results10, go_sem, hset]) rfl (SvEnds.mk (s := noV xs kind true) ((HB.out.grew gz).store hRz _) (gz.setCell (Nat.le_succ _) _))
end Go.Proofs.Ytocmningcpcmiaa
