/-
  Package dhcp: options that stand in a map: of a message, taken of bytes, given to a message.
-/
import Derived.Test.YtnmffkmpkgmkpaaDhA
import Derived.WalkMore
import Derived.LoopTactic
set_option maxRecDepth 4000
set_option linter.unusedVariables false
set_option linter.unusedSimpArgs false
namespace Go.Proofs.Ytnmffkmpkgmkpaa
open Go.RowKit

/-- Block b of w is the map f of at most n entries. -/
abbrev OM (w : World) (b n : Nat) (f : Int → Option Int) : Prop := IMap Try.prog 5 24 .u8 .u32 w b n f
theorem zeroU32 (w : World) : (zeroValue 24).run Try.prog w = .ok (.int .u32 0) w := by kernel_rfl
/-- v, perhaps nil, is the map f. -/
structure OV (w : World) (v : Value) (f : Int → Option Int) : Prop where
  look : ∀ x, 0 ≤ x → x < 256 → (Instr.lookup 43 v (.int .u8 x) false).run Try.prog w = .ok (.int .u32 ((f x).getD 0)) w
  shape : (v = .map none) ∨ ∃ b n, v = .map (some b) ∧ OM w b n f
  wf : ∀ x, 0 ≤ (f x).getD 0 ∧ (f x).getD 0 < 4294967296
theorem OM.look {w : World} {b n : Nat} {f : Int → Option Int} (h : OM w b n f) {x : Int} (h0 : 0 ≤ x) (h1 : x < 256) : (Instr.lookup 43 (.map (some b)) (.int .u8 x) false).run Try.prog w = .ok (.int .u32 ((f x).getD 0)) w := IMap.look h Try.underlying5 Try.underlying43 Try.underlying24 (zeroU32 w) (wfI_u8 h0 h1)
theorem OM.lookOk {w : World} {b n : Nat} {f : Int → Option Int} (h : OM w b n f) {x : Int} (h0 : 0 ≤ x) (h1 : x < 256) : (Instr.lookup 43 (.map (some b)) (.int .u8 x) true).run Try.prog w = .ok (.tuple #[.int .u32 ((f x).getD 0), .bool (f x).isSome]) w := IMap.lookOk h Try.underlying5 Try.underlying43 Try.underlying24 (zeroU32 w) (wfI_u8 h0 h1)
theorem OM.lt32 {w : World} {b n : Nat} {f : Int → Option Int} (h : OM w b n f) (x : Int) : 0 ≤ (f x).getD 0 ∧ (f x).getD 0 < 4294967296 := by
  cases e : f x with
  | none => exact ⟨by simp, by simp⟩
  | some y => exact wf_u32 (h.wf x y e)
theorem OV.some {w : World} {b n : Nat} {f : Int → Option Int} (h : OM w b n f) : OV w (.map (some b)) f := ⟨fun _ h0 h1 => OM.look h h0 h1, .inr ⟨b, n, rfl, h⟩, OM.lt32 h⟩
theorem OV.nil (w : World) : OV w (.map none) noneI := ⟨fun _ h0 h1 => nilMap_look Try.underlying5 Try.underlying43 (zeroU32 w) (wfI_u8 h0 h1), .inl rfl, fun _ => ⟨by simp [noneI], by simp [noneI]⟩⟩
theorem OV.grew {w w' : World} {v : Value} {f : Int → Option Int} (h : OV w v f) (g : Grew w w') : OV w' v f := by
  rcases h.shape with rfl | ⟨b, n, rfl, hm⟩
  · refine ⟨fun x h0 h1 => ?_, .inl rfl, h.wf⟩
    have e1 := h.look x h0 h1
    have e2 := nilMap_look (w := w) (t := 43) Try.underlying5 Try.underlying43 (zeroU32 w) (wfI_u8 h0 h1)
    have e3 := nilMap_look (w := w') (t := 43) Try.underlying5 Try.underlying43 (zeroU32 w') (wfI_u8 h0 h1)
    rw [e2] at e1
    simp only [Result.ok.injEq, Value.int.injEq, true_and, and_true] at e1
    rw [e3, ← e1]
  · exact OV.some (IMap.grew hm g)
theorem OV.box {w : World} {v : Value} {f : Int → Option Int} (h : OV w v f) {B o : Nat} {cs : Array Value} {T : TypeId} (hB : Blk w B cs T) (u : Value) : OV (w.setCell ⟨B, o, none⟩ u) v f := by
  rcases h.shape with rfl | ⟨b, n, rfl, hm⟩
  · refine ⟨fun x h0 h1 => ?_, .inl rfl, h.wf⟩
    have e1 := h.look x h0 h1
    have e2 := nilMap_look (w := w) (t := 43) Try.underlying5 Try.underlying43 (zeroU32 w) (wfI_u8 h0 h1)
    have e3 := nilMap_look (w := (w.setCell ⟨B, o, none⟩ u)) (t := 43) Try.underlying5 Try.underlying43 (zeroU32 _) (wfI_u8 h0 h1)
    rw [e2] at e1
    simp only [Result.ok.injEq, Value.int.injEq, true_and, and_true] at e1
    rw [e3, ← e1]
  · exact OV.some (IMap.trn hm (Trn.set w B o u) (hB.neMap hm).symm)
/-- The options of a message. -/
def opF (f : DHR) : Int → Option Int := updI (updI (updI (updI (updI (updI (updI noneI 53 f.ty) 50 f.wa) 54 f.se) 51 f.le) 1 f.ma) 3 f.ro) 6 f.dn
set_option maxHeartbeats 1000000 in
theorem optionsOf_c {v : Value} {f : DHR} (h1 : 1 ≤ f.ty) (h8 : f.ty ≤ 8) {w : World} (hv : Dh w v f) :
    Calls Try.prog 21 #[v] w fun e w' => ∃ b, e = .returned (.map (some b)) ∧ OM w' b 7 (opF f) ∧ Grew w w' := by
  have k1 := hv.wa
  have k2 := hv.se
  have k3 := hv.le
  have k4 := hv.ma
  have k5 := hv.ro
  have k6 := hv.dn
  unfold u32I at k1 k2 k3 k4 k5 k6
  obtain ⟨p1, k1, rfl, b1⟩ := hv.shape
  clear b1
  unfold opF
  have ew : IntKind.u32.wrap f.ty = f.ty := IntWalk.u32_in _ (by omega)
  have hmm := @run_makeMap Try.prog
  go_enter Try.func21, Try.ntmps21
  go_upto_region 1 with fail
  have hB0 : Blk (w.alloc (.cells #[.int .i64 f.op, .int .u32 f.xid, .int .u32 f.ci, .int .u32 f.yi, .slice p1 f.x.length k1, .int .i64 f.ty, .int .u32 f.wa, .int .u32 f.se, .int .u32 f.le, .int .u32 f.ma, .int .u32 f.ro, .int .u32 f.dn] 26)) w.heap.size #[.int .i64 f.op, .int .u32 f.xid, .int .u32 f.ci, .int .u32 f.yi, .slice p1 f.x.length k1, .int .i64 f.ty, .int .u32 f.wa, .int .u32 f.se, .int .u32 f.le, .int .u32 f.ma, .int .u32 f.ro, .int .u32 f.dn] 26 := Blk.new _ _ _ _ rfl
  have g0 : Grew w (w.alloc (.cells #[.int .i64 f.op, .int .u32 f.xid, .int .u32 f.ci, .int .u32 f.yi, .slice p1 f.x.length k1, .int .i64 f.ty, .int .u32 f.wa, .int .u32 f.se, .int .u32 f.le, .int .u32 f.ma, .int .u32 f.ro, .int .u32 f.dn] 26)) := (Grew.refl _).alloc _
  generalize (w.alloc (.cells #[.int .i64 f.op, .int .u32 f.xid, .int .u32 f.ci, .int .u32 f.yi, .slice p1 f.x.length k1, .int .i64 f.ty, .int .u32 f.wa, .int .u32 f.se, .int .u32 f.le, .int .u32 f.ma, .int .u32 f.ro, .int .u32 f.dn] 26)) = w0 at *
  generalize hlB : w.heap.size = B at *
  have hI := IMap.made (P := Try.prog) (k := 5) (e := 24) (qk := .u8) (qe := .u32) w0
  have hB := hB0.alloc (.map #[] 0)
  have G := g0.alloc (.map #[] 0)
  have hwM : w.heap.size ≤ w0.heap.size := g0.size
  clear hB0 g0
  have y5 := hB.cell 5
  have y6 := hB.cell 6
  have y7 := hB.cell 7
  have y8 := hB.cell 8
  have y9 := hB.cell 9
  have y10 := hB.cell 10
  have y11 := hB.cell 11
  go_wp2_with (refine wpList_insert_i rfl _ _ _ rfl Try.underlying5 Try.underlying43 Try.underlying24 hI (by unfold maxLen; omega) rfl rfl rfl (wfI_u8 (by omega) (by omega)) (wfI_u32 (by omega) (by omega)) ?_; intro w9 hI9 hT9; replace hB := hB.trn hT9 (hB.neMap hI); replace G := hT9.grew G hwM; replace hI := hI9; clear hI9 hT9; have y5 := hB.cell 5; have y6 := hB.cell 6; have y7 := hB.cell 7; have y8 := hB.cell 8; have y9 := hB.cell 9; have y10 := hB.cell 10; have y11 := hB.cell 11)
  go_ret
  exact ⟨_, rfl, hI, G⟩
set_option maxHeartbeats 2000000 in
theorem addTo_v {f : DHR} {p1 : Option Addr} {k1 : Nat} {t : Value} {m : Int → Option Int} {z0 : Int} (e0 : (m 53).getD 0 = z0) {z1 : Int} (e1 : (m 50).getD 0 = z1) {z2 : Int} (e2 : (m 54).getD 0 = z2) {z3 : Int} (e3 : (m 51).getD 0 = z3) {z4 : Int} (e4 : (m 1).getD 0 = z4) {z5 : Int} (e5 : (m 3).getD 0 = z5) {z6 : Int} (e6 : (m 6).getD 0 = z6) (hz0 : 0 ≤ z0 ∧ z0 < 4294967296) {w : World} (hv : OV w t m) :
    Calls Try.prog 15 #[t, .agg #[.int .i64 f.op, .int .u32 f.xid, .int .u32 f.ci, .int .u32 f.yi, .slice p1 f.x.length k1, .int .i64 f.ty, .int .u32 f.wa, .int .u32 f.se, .int .u32 f.le, .int .u32 f.ma, .int .u32 f.ro, .int .u32 f.dn]] w fun e w' => e = .returned (.agg #[.int .i64 f.op, .int .u32 f.xid, .int .u32 f.ci, .int .u32 f.yi, .slice p1 f.x.length k1, .int .i64 z0, .int .u32 z1, .int .u32 z2, .int .u32 z3, .int .u32 z4, .int .u32 z5, .int .u32 z6]) ∧ Grew w w' := by
  have ew : IntKind.i64.wrap z0 = z0 := IntWalk.i64_in _ (by omega)
  clear hz0
  go_enter Try.func15, Try.ntmps15
  go_upto_region 1 with fail
  have hB : Blk ((w.alloc (.cells #[.int .i64 f.op, .int .u32 f.xid, .int .u32 f.ci, .int .u32 f.yi, .slice p1 f.x.length k1, .int .i64 f.ty, .int .u32 f.wa, .int .u32 f.se, .int .u32 f.le, .int .u32 f.ma, .int .u32 f.ro, .int .u32 f.dn] 26)).alloc (.cells #[.int .i64 0, .int .u32 0, .int .u32 0, .int .u32 0, .slice none 0 0, .int .i64 0, .int .u32 0, .int .u32 0, .int .u32 0, .int .u32 0, .int .u32 0, .int .u32 0] 26)) w.heap.size #[.int .i64 f.op, .int .u32 f.xid, .int .u32 f.ci, .int .u32 f.yi, .slice p1 f.x.length k1, .int .i64 f.ty, .int .u32 f.wa, .int .u32 f.se, .int .u32 f.le, .int .u32 f.ma, .int .u32 f.ro, .int .u32 f.dn] 26 := (Blk.new _ _ _ _ rfl).alloc _
  have hR : Blk ((w.alloc (.cells #[.int .i64 f.op, .int .u32 f.xid, .int .u32 f.ci, .int .u32 f.yi, .slice p1 f.x.length k1, .int .i64 f.ty, .int .u32 f.wa, .int .u32 f.se, .int .u32 f.le, .int .u32 f.ma, .int .u32 f.ro, .int .u32 f.dn] 26)).alloc (.cells #[.int .i64 0, .int .u32 0, .int .u32 0, .int .u32 0, .slice none 0 0, .int .i64 0, .int .u32 0, .int .u32 0, .int .u32 0, .int .u32 0, .int .u32 0, .int .u32 0] 26)) (w.heap.size + 1) #[.int .i64 0, .int .u32 0, .int .u32 0, .int .u32 0, .slice none 0 0, .int .i64 0, .int .u32 0, .int .u32 0, .int .u32 0, .int .u32 0, .int .u32 0, .int .u32 0] 26 := Blk.new _ _ _ _ (by simp)
  have g0 : Grew w ((w.alloc (.cells #[.int .i64 f.op, .int .u32 f.xid, .int .u32 f.ci, .int .u32 f.yi, .slice p1 f.x.length k1, .int .i64 f.ty, .int .u32 f.wa, .int .u32 f.se, .int .u32 f.le, .int .u32 f.ma, .int .u32 f.ro, .int .u32 f.dn] 26)).alloc (.cells #[.int .i64 0, .int .u32 0, .int .u32 0, .int .u32 0, .slice none 0 0, .int .i64 0, .int .u32 0, .int .u32 0, .int .u32 0, .int .u32 0, .int .u32 0, .int .u32 0] 26)) := ((Grew.refl _).alloc _).alloc _
  generalize ((w.alloc (.cells #[.int .i64 f.op, .int .u32 f.xid, .int .u32 f.ci, .int .u32 f.yi, .slice p1 f.x.length k1, .int .i64 f.ty, .int .u32 f.wa, .int .u32 f.se, .int .u32 f.le, .int .u32 f.ma, .int .u32 f.ro, .int .u32 f.dn] 26)).alloc (.cells #[.int .i64 0, .int .u32 0, .int .u32 0, .int .u32 0, .slice none 0 0, .int .i64 0, .int .u32 0, .int .u32 0, .int .u32 0, .int .u32 0, .int .u32 0, .int .u32 0] 26)) = w0 at *
  generalize hlR : w.heap.size + 1 = R at *
  generalize hlB : w.heap.size = B at *
  have hRB : R ≠ B := by omega
  have hwB : w.heap.size ≤ B := by omega
  have hwR : w.heap.size ≤ R := by omega
  have hV := Lib.hid (hv.grew g0)
  have hl := hV.out.look 53 (by omega) (by omega)
  rw [e0] at hl
  have x0 := hB.cell 5
  have q0 := hB.free 5
  go_upto_region 2 with fail
  have g1 := g0.setCell (b := B) (o := 5) hwB (.int .i64 z0)
  replace hV := Lib.hid (hV.out.box (o := 5) hB (.int .i64 z0))
  replace hR := hR.other (c := B) (o := 5) hRB (.int .i64 z0)
  replace hB : Blk _ B #[.int .i64 f.op, .int .u32 f.xid, .int .u32 f.ci, .int .u32 f.yi, .slice p1 f.x.length k1, .int .i64 z0, .int .u32 f.wa, .int .u32 f.se, .int .u32 f.le, .int .u32 f.ma, .int .u32 f.ro, .int .u32 f.dn] 26 := hB.set (o := 5) (.int .i64 z0)
  clear hl x0 q0 g0
  generalize (w0.setCell ⟨B, 5, none⟩ (.int .i64 z0)) = w1 at *
  have hl := hV.out.look 50 (by omega) (by omega)
  rw [e1] at hl
  have x0 := hB.cell 6
  have q0 := hB.free 6
  go_upto_region 3 with fail
  have g2 := g1.setCell (b := B) (o := 6) hwB (.int .u32 z1)
  replace hV := Lib.hid (hV.out.box (o := 6) hB (.int .u32 z1))
  replace hR := hR.other (c := B) (o := 6) hRB (.int .u32 z1)
  replace hB : Blk _ B #[.int .i64 f.op, .int .u32 f.xid, .int .u32 f.ci, .int .u32 f.yi, .slice p1 f.x.length k1, .int .i64 z0, .int .u32 z1, .int .u32 f.se, .int .u32 f.le, .int .u32 f.ma, .int .u32 f.ro, .int .u32 f.dn] 26 := hB.set (o := 6) (.int .u32 z1)
  clear hl x0 q0 g1
  generalize (w1.setCell ⟨B, 6, none⟩ (.int .u32 z1)) = w2 at *
  have hl := hV.out.look 54 (by omega) (by omega)
  rw [e2] at hl
  have x0 := hB.cell 7
  have q0 := hB.free 7
  go_upto_region 4 with fail
  have g3 := g2.setCell (b := B) (o := 7) hwB (.int .u32 z2)
  replace hV := Lib.hid (hV.out.box (o := 7) hB (.int .u32 z2))
  replace hR := hR.other (c := B) (o := 7) hRB (.int .u32 z2)
  replace hB : Blk _ B #[.int .i64 f.op, .int .u32 f.xid, .int .u32 f.ci, .int .u32 f.yi, .slice p1 f.x.length k1, .int .i64 z0, .int .u32 z1, .int .u32 z2, .int .u32 f.le, .int .u32 f.ma, .int .u32 f.ro, .int .u32 f.dn] 26 := hB.set (o := 7) (.int .u32 z2)
  clear hl x0 q0 g2
  generalize (w2.setCell ⟨B, 7, none⟩ (.int .u32 z2)) = w3 at *
  have hl := hV.out.look 51 (by omega) (by omega)
  rw [e3] at hl
  have x0 := hB.cell 8
  have q0 := hB.free 8
  go_upto_region 5 with fail
  have g4 := g3.setCell (b := B) (o := 8) hwB (.int .u32 z3)
  replace hV := Lib.hid (hV.out.box (o := 8) hB (.int .u32 z3))
  replace hR := hR.other (c := B) (o := 8) hRB (.int .u32 z3)
  replace hB : Blk _ B #[.int .i64 f.op, .int .u32 f.xid, .int .u32 f.ci, .int .u32 f.yi, .slice p1 f.x.length k1, .int .i64 z0, .int .u32 z1, .int .u32 z2, .int .u32 z3, .int .u32 f.ma, .int .u32 f.ro, .int .u32 f.dn] 26 := hB.set (o := 8) (.int .u32 z3)
  clear hl x0 q0 g3
  generalize (w3.setCell ⟨B, 8, none⟩ (.int .u32 z3)) = w4 at *
  have hl := hV.out.look 1 (by omega) (by omega)
  rw [e4] at hl
  have x0 := hB.cell 9
  have q0 := hB.free 9
  go_upto_region 6 with fail
  have g5 := g4.setCell (b := B) (o := 9) hwB (.int .u32 z4)
  replace hV := Lib.hid (hV.out.box (o := 9) hB (.int .u32 z4))
  replace hR := hR.other (c := B) (o := 9) hRB (.int .u32 z4)
  replace hB : Blk _ B #[.int .i64 f.op, .int .u32 f.xid, .int .u32 f.ci, .int .u32 f.yi, .slice p1 f.x.length k1, .int .i64 z0, .int .u32 z1, .int .u32 z2, .int .u32 z3, .int .u32 z4, .int .u32 f.ro, .int .u32 f.dn] 26 := hB.set (o := 9) (.int .u32 z4)
  clear hl x0 q0 g4
  generalize (w4.setCell ⟨B, 9, none⟩ (.int .u32 z4)) = w5 at *
  have hl := hV.out.look 3 (by omega) (by omega)
  rw [e5] at hl
  have x0 := hB.cell 10
  have q0 := hB.free 10
  go_upto_region 7 with fail
  have g6 := g5.setCell (b := B) (o := 10) hwB (.int .u32 z5)
  replace hV := Lib.hid (hV.out.box (o := 10) hB (.int .u32 z5))
  replace hR := hR.other (c := B) (o := 10) hRB (.int .u32 z5)
  replace hB : Blk _ B #[.int .i64 f.op, .int .u32 f.xid, .int .u32 f.ci, .int .u32 f.yi, .slice p1 f.x.length k1, .int .i64 z0, .int .u32 z1, .int .u32 z2, .int .u32 z3, .int .u32 z4, .int .u32 z5, .int .u32 f.dn] 26 := hB.set (o := 10) (.int .u32 z5)
  clear hl x0 q0 g5
  generalize (w5.setCell ⟨B, 10, none⟩ (.int .u32 z5)) = w6 at *
  have hl := hV.out.look 6 (by omega) (by omega)
  rw [e6] at hl
  have x0 := hB.cell 11
  have q0 := hB.free 11
  go_upto_region 8 with fail
  have g7 := g6.setCell (b := B) (o := 11) hwB (.int .u32 z6)
  replace hV := Lib.hid (hV.out.box (o := 11) hB (.int .u32 z6))
  replace hR := hR.other (c := B) (o := 11) hRB (.int .u32 z6)
  replace hB : Blk _ B #[.int .i64 f.op, .int .u32 f.xid, .int .u32 f.ci, .int .u32 f.yi, .slice p1 f.x.length k1, .int .i64 z0, .int .u32 z1, .int .u32 z2, .int .u32 z3, .int .u32 z4, .int .u32 z5, .int .u32 z6] 26 := hB.set (o := 11) (.int .u32 z6)
  clear hl x0 q0 g6
  generalize (w6.setCell ⟨B, 11, none⟩ (.int .u32 z6)) = w7 at *
  clear hV
  have y0 := hB.cell 0
  have y1 := hB.cell 1
  have y2 := hB.cell 2
  have y3 := hB.cell 3
  have y4 := hB.cell 4
  have y5 := hB.cell 5
  have y6 := hB.cell 6
  have y7 := hB.cell 7
  have y8 := hB.cell 8
  have y9 := hB.cell 9
  have y10 := hB.cell 10
  have y11 := hB.cell 11
  have x0 := hR.cell 0
  have x1 := hR.cell 1
  have x2 := hR.cell 2
  have x3 := hR.cell 3
  have x4 := hR.cell 4
  have x5 := hR.cell 5
  have x6 := hR.cell 6
  have x7 := hR.cell 7
  have x8 := hR.cell 8
  have x9 := hR.cell 9
  have x10 := hR.cell 10
  have x11 := hR.cell 11
  have q0 := hR.free 0
  have q1 := hR.free 1
  have q2 := hR.free 2
  have q3 := hR.free 3
  have q4 := hR.free 4
  have q5 := hR.free 5
  have q6 := hR.free 6
  have q7 := hR.free 7
  have q8 := hR.free 8
  have q9 := hR.free 9
  have q10 := hR.free 10
  have q11 := hR.free 11
  go_wp2_with fail
  have E := ((((((((((((hR.set (o := 0) ((.int .i64 f.op))).set (o := 1) ((.int .u32 f.xid))).set (o := 2) ((.int .u32 f.ci))).set (o := 3) ((.int .u32 f.yi))).set (o := 4) ((.slice p1 f.x.length k1))).set (o := 5) ((.int .i64 z0))).set (o := 6) ((.int .u32 z1))).set (o := 7) ((.int .u32 z2))).set (o := 8) ((.int .u32 z3))).set (o := 9) ((.int .u32 z4))).set (o := 10) ((.int .u32 z5))).set (o := 11) ((.int .u32 z6)))
  have GE := ((((((((((((g7.setCell (b := R) (o := 0) (hwR) ((.int .i64 f.op))).setCell (b := R) (o := 1) (hwR) ((.int .u32 f.xid))).setCell (b := R) (o := 2) (hwR) ((.int .u32 f.ci))).setCell (b := R) (o := 3) (hwR) ((.int .u32 f.yi))).setCell (b := R) (o := 4) (hwR) ((.slice p1 f.x.length k1))).setCell (b := R) (o := 5) (hwR) ((.int .i64 z0))).setCell (b := R) (o := 6) (hwR) ((.int .u32 z1))).setCell (b := R) (o := 7) (hwR) ((.int .u32 z2))).setCell (b := R) (o := 8) (hwR) ((.int .u32 z3))).setCell (b := R) (o := 9) (hwR) ((.int .u32 z4))).setCell (b := R) (o := 10) (hwR) ((.int .u32 z5))).setCell (b := R) (o := 11) (hwR) ((.int .u32 z6)))
  have KK := ((((((((((((BufsKept.box (o := 0) hR (by simp [noU8]) ((.int .i64 f.op))).trans (BufsKept.box (o := 1) (hR.set (o := 0) ((.int .i64 f.op))) (by simp [noU8]) ((.int .u32 f.xid)))).trans (BufsKept.box (o := 2) ((hR.set (o := 0) ((.int .i64 f.op))).set (o := 1) ((.int .u32 f.xid))) (by simp [noU8]) ((.int .u32 f.ci)))).trans (BufsKept.box (o := 3) (((hR.set (o := 0) ((.int .i64 f.op))).set (o := 1) ((.int .u32 f.xid))).set (o := 2) ((.int .u32 f.ci))) (by simp [noU8]) ((.int .u32 f.yi)))).trans (BufsKept.box (o := 4) ((((hR.set (o := 0) ((.int .i64 f.op))).set (o := 1) ((.int .u32 f.xid))).set (o := 2) ((.int .u32 f.ci))).set (o := 3) ((.int .u32 f.yi))) (by simp [noU8]) ((.slice p1 f.x.length k1)))).trans (BufsKept.box (o := 5) (((((hR.set (o := 0) ((.int .i64 f.op))).set (o := 1) ((.int .u32 f.xid))).set (o := 2) ((.int .u32 f.ci))).set (o := 3) ((.int .u32 f.yi))).set (o := 4) ((.slice p1 f.x.length k1))) (by simp [noU8]) ((.int .i64 z0)))).trans (BufsKept.box (o := 6) ((((((hR.set (o := 0) ((.int .i64 f.op))).set (o := 1) ((.int .u32 f.xid))).set (o := 2) ((.int .u32 f.ci))).set (o := 3) ((.int .u32 f.yi))).set (o := 4) ((.slice p1 f.x.length k1))).set (o := 5) ((.int .i64 z0))) (by simp [noU8]) ((.int .u32 z1)))).trans (BufsKept.box (o := 7) (((((((hR.set (o := 0) ((.int .i64 f.op))).set (o := 1) ((.int .u32 f.xid))).set (o := 2) ((.int .u32 f.ci))).set (o := 3) ((.int .u32 f.yi))).set (o := 4) ((.slice p1 f.x.length k1))).set (o := 5) ((.int .i64 z0))).set (o := 6) ((.int .u32 z1))) (by simp [noU8]) ((.int .u32 z2)))).trans (BufsKept.box (o := 8) ((((((((hR.set (o := 0) ((.int .i64 f.op))).set (o := 1) ((.int .u32 f.xid))).set (o := 2) ((.int .u32 f.ci))).set (o := 3) ((.int .u32 f.yi))).set (o := 4) ((.slice p1 f.x.length k1))).set (o := 5) ((.int .i64 z0))).set (o := 6) ((.int .u32 z1))).set (o := 7) ((.int .u32 z2))) (by simp [noU8]) ((.int .u32 z3)))).trans (BufsKept.box (o := 9) (((((((((hR.set (o := 0) ((.int .i64 f.op))).set (o := 1) ((.int .u32 f.xid))).set (o := 2) ((.int .u32 f.ci))).set (o := 3) ((.int .u32 f.yi))).set (o := 4) ((.slice p1 f.x.length k1))).set (o := 5) ((.int .i64 z0))).set (o := 6) ((.int .u32 z1))).set (o := 7) ((.int .u32 z2))).set (o := 8) ((.int .u32 z3))) (by simp [noU8]) ((.int .u32 z4)))).trans (BufsKept.box (o := 10) ((((((((((hR.set (o := 0) ((.int .i64 f.op))).set (o := 1) ((.int .u32 f.xid))).set (o := 2) ((.int .u32 f.ci))).set (o := 3) ((.int .u32 f.yi))).set (o := 4) ((.slice p1 f.x.length k1))).set (o := 5) ((.int .i64 z0))).set (o := 6) ((.int .u32 z1))).set (o := 7) ((.int .u32 z2))).set (o := 8) ((.int .u32 z3))).set (o := 9) ((.int .u32 z4))) (by simp [noU8]) ((.int .u32 z5)))).trans (BufsKept.box (o := 11) (((((((((((hR.set (o := 0) ((.int .i64 f.op))).set (o := 1) ((.int .u32 f.xid))).set (o := 2) ((.int .u32 f.ci))).set (o := 3) ((.int .u32 f.yi))).set (o := 4) ((.slice p1 f.x.length k1))).set (o := 5) ((.int .i64 z0))).set (o := 6) ((.int .u32 z1))).set (o := 7) ((.int .u32 z2))).set (o := 8) ((.int .u32 z3))).set (o := 9) ((.int .u32 z4))).set (o := 10) ((.int .u32 z5))) (by simp [noU8]) ((.int .u32 z6))))
  have e0 := E.cell 0
  have e1 := E.cell 1
  have e2 := E.cell 2
  have e3 := E.cell 3
  have e4 := E.cell 4
  have e5 := E.cell 5
  have e6 := E.cell 6
  have e7 := E.cell 7
  have e8 := E.cell 8
  have e9 := E.cell 9
  have e10 := E.cell 10
  have e11 := E.cell 11
  exact bodyPost_ret (v := .agg #[.int .i64 f.op, .int .u32 f.xid, .int .u32 f.ci, .int .u32 f.yi, .slice p1 f.x.length k1, .int .i64 z0, .int .u32 z1, .int .u32 z2, .int .u32 z3, .int .u32 z4, .int .u32 z5, .int .u32 z6]) (by simp [results, Try.results15, go_sem, e0, e1, e2, e3, e4, e5, e6, e7, e8, e9, e10, e11]) rfl ⟨rfl, GE⟩
theorem addTo_c {v t : Value} {f : DHR} {m : Int → Option Int} {w : World} (hf : Dh w v f) (hv : OV w t m) :
    Calls Try.prog 15 #[t, v] w fun e w' => ∃ u, e = .returned u ∧ Dh w' u (adD f m) ∧ Grew w w' := by
  have hf' := hf
  obtain ⟨p1, k1, rfl, b1⟩ := hf.shape
  have hw := hv.wf
  refine (addTo_v (f := f) rfl rfl rfl rfl rfl rfl rfl (hw 53) hv).mono ?_
  rintro e w' ⟨rfl, g⟩
  refine ⟨_, rfl, ⟨⟨_, _, rfl, b1.grew g⟩, hf'.op, hf'.xid, hf'.ci, hf'.yi, ?_, hw 50, hw 54, hw 51, hw 1, hw 3, hw 6⟩, g⟩
  have := hw 53
  show intI _
  unfold intI
  exact ⟨by show _ ≤ (m 53).getD 0; omega, by show (m 53).getD 0 ≤ _; omega⟩
set_option maxHeartbeats 4000000 in
theorem take_c {v : Value} {ds : List Int} {num : Int} (hn0 : 0 ≤ num) (hn1 : num < 256) (hl : ds.length ≤ 140737488355328) {b n : Nat} {f : Int → Option Int} (hn : n + 8 < 9223372036854775807) {w : World} (hI : OM w b n f) (hb : Buf w v ds) :
    Calls Try.prog 29 #[.map (some b), .int .u8 num, v] w fun e w' => e = .returned (.tuple #[]) ∧ OM w' b (n + 7) (tkV f num ds) ∧ Trn b w w' := by
  have hlb := hI.lt
  have HI0 := Lib.hid hI
  have HB0 := Lib.hid hb
  have hdl : ds.length ≤ 140737488355328 := hl
  obtain ⟨a, c, rfl, _, _⟩ := hb.shape
  clear hI hb
  go_enter Try.func29, Try.ntmps29
  go_wp2_with fail
  refine (kinds_c w).mono ?_
  rintro e w1 ⟨g, rfl, hkc, hge, g1⟩
  have HKC := Lib.hid hkc
  have HI1 := Lib.hid (HI0.out.grew g1)
  have HT1 := Lib.hid (Trn.of_grew (c := b) g1)
  have hgb := Lib.hid (hkc.neMap HI1.out)
  clear hkc g1 hge
  go_upto_region 1 with fail
  go_loopw [12] (fun i wr => ∃ k : Nat, k ≤ 7 ∧ i = .int .i64 k ∧ Hid (Blk wr g kC 71) ∧ Hid (OM wr b (n + k) (tkTo num ds f k)) ∧ Hid (Trn b w wr)) (fun i _ => 7 - (intOf i).toNat)
  case atStart => exact ⟨0, by omega, rfl, HKC, HI1, HT1⟩
  case round =>
    clear HKC HI1 HT1
    obtain ⟨k, hk7, rfl, HKC, HI, HT⟩ := hrel
    by_cases hlt : k < 7
    · have hlt' : (k : Int) < 7 := by omega
      obtain ⟨c0, c1, c2⟩ := kC_at k hlt
      have x0 := HKC.out.cell (k * 3)
      have x1 := HKC.out.cell (k * 3 + 1)
      have x2 := HKC.out.cell (k * 3 + 2)
      rw [c0] at x0
      rw [c1] at x1
      rw [c2] at x2
      have hs8 : kS k ≤ 4 := by match k, hlt with | 0, _ | 1, _ | 2, _ | 3, _ | 4, _ | 5, _ | 6, _ => decide
      have ht1 : Hid (tkTo num ds f (k + 1) = tk1 num ds (tkTo num ds f k) k) := Lib.hid rfl
      have HK1 := Lib.hid (fun h => tk1_kept (n := num) (d := ds) (f := tkTo num ds f k) (i := k) h)
      have HK2 := Lib.hid (fun h => tk1_miss (n := num) (d := ds) (f := tkTo num ds f k) (i := k) h)
      have HK3 := Lib.hid (fun h => tk1_long (n := num) (d := ds) (f := tkTo num ds f k) (i := k) h)
      have HK4 := Lib.hid (fun h h2 h1 => tk1_hit (n := num) (d := ds) (f := tkTo num ds f k) (i := k) h h2 h1)
      clear c0 c1 c2
      generalize hF1 : tkTo num ds f (k + 1) = F1 at *
      have HF1 := Lib.hid hF1
      clear hF1
      generalize tkTo num ds f k = F at *
      generalize kN k = kn at *
      generalize kS k = ks at *
      generalize kM k = km at *
      go_upto_region 3 with fail
      have KA := Lib.hid (Blk.new wr #[.int .u8 kn, .int .i64 (ks : Nat), .bool km] 71 _ rfl)
      have ga : Grew wr (wr.alloc (.cells #[.int .u8 kn, .int .i64 (ks : Nat), .bool km] 71)) := (Grew.refl _).alloc _
      have HI2 := Lib.hid (HI.out.grew ga)
      have HKC2 := Lib.hid (HKC.out.grew ga)
      have HT2 := Lib.hid (HT.out.trans (Trn.of_grew ga))
      clear HI HKC HT ga x0 x1 x2
      generalize (wr.alloc (.cells #[.int .u8 kn, .int .i64 (ks : Nat), .bool km] 71)) = w3 at *
      generalize wr.heap.size = N3 at *
      have hl := OM.lookOk HI2.out hn0 hn1
      have y0 := KA.out.cell 0
      have y1 := KA.out.cell 1
      have y2 := KA.out.cell 2
      have hyN : Hid (N3 ≠ b) := Lib.hid (KA.out.neMap HI2.out)
      cases hF : F num with
      | some z =>
        rw [hF] at hl
        have e1 : F1 = F := ht1.out.trans (HK1.out (by rw [hF]; simp))
        have HI3 := Lib.hid (show OM w3 b (n + (k + 1)) F1 from (by rw [e1]; exact HI2.out.mono (by omega)))
        clear hF e1
        go_wp2_with fail
        go_roundw
        case rel => exact ⟨k + 1, by omega, by go_num, HKC2, (by rw [HF1.out]; exact HI3), HT2⟩
        case measure => simp [intOf]; omega
      | none =>
        rw [hF] at hl
        cases htk : (kn == num && fitsV ks km ds.length)
        · have e1 : F1 = F := by
            refine ht1.out.trans ?_
            cases hkn : (kn == num)
            · exact HK2.out (by simpa using hkn)
            · rw [hkn, Bool.true_and] at htk
              exact HK3.out htk
          have HI3 := Lib.hid (show OM w3 b (n + (k + 1)) F1 from (by rw [e1]; exact HI2.out.mono (by omega)))
          have HTK := Lib.hid (takes_c kn ks km num ds.length w3)
          rw [htk] at HTK
          clear hF e1 htk
          go_wp2_with fail
          refine HTK.out.mono ?_
          rintro e w4 ⟨rfl, g4⟩
          have HI4 := Lib.hid (HI3.out.grew g4)
          have HKC4 := Lib.hid (HKC2.out.grew g4)
          have HT4 := Lib.hid (HT2.out.trans (Trn.of_grew g4))
          clear g4 y0 y1 y2 hl
          go_wp2_with fail
          go_roundw
          case rel => exact ⟨k + 1, by omega, by go_num, HKC4, (by rw [HF1.out]; exact HI4), HT4⟩
          case measure => simp [intOf]; omega
        · have hkn : kn = num := by
            cases h : (kn == num)
            · rw [h] at htk; simp at htk
            · simpa using h
          have hfit : fitsV ks km ds.length = true := by
            cases h : fitsV ks km ds.length
            · rw [h] at htk; simp at htk
            · rfl
          have e1 := Lib.hid (ht1.out.trans (HK4.out hF hkn hfit))
          have hks : ks ≤ ds.length := by
            simp only [fitsV, Bool.or_eq_true, Bool.and_eq_true, beq_iff_eq, decide_eq_true_eq] at hfit
            omega
          have HTK := Lib.hid (takes_c kn ks km num ds.length w3)
          rw [htk] at HTK
          clear hF htk hkn hfit
          have hbw := HB0.out.trnMap HI0.out HT2.out
          obtain ⟨a', c', hcut, s1, s2, hrun, s4⟩ := hbw.run_cut (lo := 0) (hi := ks) (by omega) hks
          have hr := hrun rfl .i64
          rw [Nat.sub_zero] at hr hcut
          rw [show cutL ds 0 ks = ds.take ks by simp [cutL]] at hcut
          have HC := Lib.hid hcut
          have hlk : (ds.take ks).length = ks := by rw [List.length_take]; omega
          have hg := getG_lt hcut.ok true hlk (by omega)
          have hg2 : getV (ds.take ks) true < 4294967296 := by
            have h2 : (2 : Int) ^ (8 * ks) ≤ 2 ^ 32 := by
              have : (2 : Nat) ^ (8 * ks) ≤ 2 ^ 32 := Nat.pow_le_pow_right (by omega) (by omega)
              exact_mod_cast this
            have : (2 : Int) ^ 32 = 4294967296 := by decide
            omega
          have hg0 := hg.1
          have HL8 := Lib.hid (show (ds.take ks).length ≤ 8 by omega)
          clear s1 s2 hrun s4 hcut hbw hg hlk
          generalize hZ : getV (ds.take ks) true = z at *
          have HZ := Lib.hid hZ
          clear hZ
          have ew : IntKind.u32.wrap z = z := IntWalk.u32_in _ (by omega)
          go_wp2_with fail
          refine HTK.out.mono ?_
          rintro e w4 ⟨rfl, g4⟩
          have HI4 := Lib.hid (HI2.out.grew g4)
          have HKC4 := Lib.hid (HKC2.out.grew g4)
          have KA4 := Lib.hid (KA.out.grew g4)
          have HT4 := Lib.hid (HT2.out.trans (Trn.of_grew g4))
          have HC4 := Lib.hid (HC.out.grew g4)
          clear g4 y0 y1 y2 hl HTK
          have y1 := KA4.out.cell 1
          go_wp2_with fail
          refine (get_c true HC4.out.ok (by have := HL8.out; omega) _ HC4.out.bytes).mono ?_
          rintro e w5 ⟨rfl, h5⟩
          obtain rfl := h5.symm
          rw [HZ.out]
          go_wp2_with (refine wpList_mapUpdate_i rfl _ _ _ rfl Try.underlying5 Try.underlying43 Try.underlying24 HI4.out (by unfold maxLen; omega) rfl rfl (by first | rfl | (rw [ew]; rfl)) (wfI_u8 hn0 hn1) (wfI_u32 hg0 hg2) ?_; intro w6 hI6 hT6)
          have HI6 := Lib.hid (show OM w6 b (n + (k + 1)) F1 from by rw [e1.out]; exact hI6.mono (by omega))
          have HKC6 := Lib.hid (HKC4.out.trn hT6 hgb.out)
          have HT6 := Lib.hid (HT4.out.trans hT6)
          clear hI6 hT6
          go_wp2_with fail
          go_roundw
          case rel => exact ⟨k + 1, by omega, by go_num, HKC6, (by rw [HF1.out]; exact HI6), HT6⟩
          case measure => simp [intOf]; omega
    · obtain rfl : k = 7 := by omega
      go_wp2_with fail
      go_end0
      exact ⟨rfl, HI.out, HT.out⟩
end Go.Proofs.Ytnmffkmpkgmkpaa
