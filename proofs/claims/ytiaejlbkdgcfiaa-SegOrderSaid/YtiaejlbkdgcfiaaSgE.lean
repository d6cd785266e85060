/-
  Package seg: whether a segment may be; why bytes are none; a head's segment.
-/
import Derived.Test.YtiaejlbkdgcfiaaSgD
import Derived.Test.YtiaejlbkdgcfiaaSmC
set_option maxRecDepth 4000
set_option linter.unusedVariables false
set_option linter.unusedSimpArgs false
namespace Go.Proofs.Ytiaejlbkdgcfiaa
open Go.RowKit

theorem cut_part (p x r : List Int) (lo hi : Nat) (h1 : lo = p.length) (h2 : hi = lo + x.length) : cutL (p ++ (x ++ r)) lo hi = x := by
  subst h1 h2
  unfold cutL
  rw [List.drop_left' rfl, show p.length + x.length - p.length = x.length by omega, List.take_left' rfl]
/-- The Mss that is read again. -/
def mM (f : SGR) : Int := if f.m = 0 then 0 else f.m % 65536
theorem mssV_two (x y : Int) : mssV [2, 4, x, y] = (getV [x, y] true, true) := by
  have h1 : mssAt [2, 4, x, y] 0 0 false = mssAt [2, 4, x, y] 4 (getV (cutL [2, 4, x, y] 2 4) true) true :=
    mssAt_mss (i := 0) (by simp) (by simp) (by simp) (by simp) (by simp)
  have h2 : mssAt [2, 4, x, y] 4 (getV (cutL [2, 4, x, y] 2 4) true) true = (getV (cutL [2, 4, x, y] 2 4) true, true) := mssAt_end (by simp)
  have h3 : mssV [2, 4, x, y] = mssAt [2, 4, x, y] 0 0 false := rfl
  rw [h3, h1, h2]
  rfl
theorem mssV_opS (f : SGR) : mssV (opSG f) = (mM f, true) := by
  unfold opSG mM
  by_cases h : f.m = 0
  · rw [if_pos h, if_pos h]; rfl
  · rw [if_neg h, if_neg h, putL_two]
    show mssV [2, 4, f.m / 256 % 256, f.m % 256] = _
    rw [mssV_two, getV_two, show f.m % 256 + f.m / 256 % 256 * 256 = f.m % 65536 by omega]
theorem headS_all (f : SGR) : headS f = (putL f.s 2 true ++ (putL f.d 2 true ++ (putL f.q 4 true ++ (putL f.a 4 true ++ ([80 + 4 * ((opSG f).length : Int), f.fl % 256] ++ (putL f.wn 2 true ++ ([0, 0, 0, 0] ++ opSG f))))))) := by unfold headS pre12; simp only [List.append_assoc]
theorem headS_0 (f : SGR) : cutL (headS f) 0 2 = putL f.s 2 true := by rw [headS_all]; exact cut_part [] (putL f.s 2 true) _ 0 2 rfl (by simp [putB_len])
theorem headS_1 (f : SGR) : cutL (headS f) 2 4 = putL f.d 2 true := by
  rw [headS_all, show (putL f.s 2 true ++ (putL f.d 2 true ++ (putL f.q 4 true ++ (putL f.a 4 true ++ ([80 + 4 * ((opSG f).length : Int), f.fl % 256] ++ (putL f.wn 2 true ++ ([0, 0, 0, 0] ++ opSG f))))))) = (putL f.s 2 true) ++ (putL f.d 2 true ++ (putL f.q 4 true ++ (putL f.a 4 true ++ ([80 + 4 * ((opSG f).length : Int), f.fl % 256] ++ (putL f.wn 2 true ++ ([0, 0, 0, 0] ++ opSG f)))))) by simp only [List.append_assoc]]
  exact cut_part _ _ _ _ _ (by simp [putB_len]) (by simp [putB_len])
theorem headS_2 (f : SGR) : cutL (headS f) 4 8 = putL f.q 4 true := by
  rw [headS_all, show (putL f.s 2 true ++ (putL f.d 2 true ++ (putL f.q 4 true ++ (putL f.a 4 true ++ ([80 + 4 * ((opSG f).length : Int), f.fl % 256] ++ (putL f.wn 2 true ++ ([0, 0, 0, 0] ++ opSG f))))))) = (putL f.s 2 true ++ putL f.d 2 true) ++ (putL f.q 4 true ++ (putL f.a 4 true ++ ([80 + 4 * ((opSG f).length : Int), f.fl % 256] ++ (putL f.wn 2 true ++ ([0, 0, 0, 0] ++ opSG f))))) by simp only [List.append_assoc]]
  exact cut_part _ _ _ _ _ (by simp [putB_len]) (by simp [putB_len])
theorem headS_3 (f : SGR) : cutL (headS f) 8 12 = putL f.a 4 true := by
  rw [headS_all, show (putL f.s 2 true ++ (putL f.d 2 true ++ (putL f.q 4 true ++ (putL f.a 4 true ++ ([80 + 4 * ((opSG f).length : Int), f.fl % 256] ++ (putL f.wn 2 true ++ ([0, 0, 0, 0] ++ opSG f))))))) = (putL f.s 2 true ++ putL f.d 2 true ++ putL f.q 4 true) ++ (putL f.a 4 true ++ ([80 + 4 * ((opSG f).length : Int), f.fl % 256] ++ (putL f.wn 2 true ++ ([0, 0, 0, 0] ++ opSG f)))) by simp only [List.append_assoc]]
  exact cut_part _ _ _ _ _ (by simp [putB_len]) (by simp [putB_len])
theorem headS_4 (f : SGR) : cutL (headS f) 12 14 = [80 + 4 * ((opSG f).length : Int), f.fl % 256] := by
  rw [headS_all, show (putL f.s 2 true ++ (putL f.d 2 true ++ (putL f.q 4 true ++ (putL f.a 4 true ++ ([80 + 4 * ((opSG f).length : Int), f.fl % 256] ++ (putL f.wn 2 true ++ ([0, 0, 0, 0] ++ opSG f))))))) = (putL f.s 2 true ++ putL f.d 2 true ++ putL f.q 4 true ++ putL f.a 4 true) ++ ([80 + 4 * ((opSG f).length : Int), f.fl % 256] ++ (putL f.wn 2 true ++ ([0, 0, 0, 0] ++ opSG f))) by simp only [List.append_assoc]]
  exact cut_part _ _ _ _ _ (by simp [putB_len]) (by simp [putB_len])
theorem headS_5 (f : SGR) : cutL (headS f) 14 16 = putL f.wn 2 true := by
  rw [headS_all, show (putL f.s 2 true ++ (putL f.d 2 true ++ (putL f.q 4 true ++ (putL f.a 4 true ++ ([80 + 4 * ((opSG f).length : Int), f.fl % 256] ++ (putL f.wn 2 true ++ ([0, 0, 0, 0] ++ opSG f))))))) = (putL f.s 2 true ++ putL f.d 2 true ++ putL f.q 4 true ++ putL f.a 4 true ++ [80 + 4 * ((opSG f).length : Int), f.fl % 256]) ++ (putL f.wn 2 true ++ ([0, 0, 0, 0] ++ opSG f)) by simp only [List.append_assoc]]
  exact cut_part _ _ _ _ _ (by simp [putB_len]) (by simp [putB_len])
theorem headS_6 (f : SGR) : cutL (headS f) 16 20 = [0, 0, 0, 0] := by
  rw [headS_all, show (putL f.s 2 true ++ (putL f.d 2 true ++ (putL f.q 4 true ++ (putL f.a 4 true ++ ([80 + 4 * ((opSG f).length : Int), f.fl % 256] ++ (putL f.wn 2 true ++ ([0, 0, 0, 0] ++ opSG f))))))) = (putL f.s 2 true ++ putL f.d 2 true ++ putL f.q 4 true ++ putL f.a 4 true ++ [80 + 4 * ((opSG f).length : Int), f.fl % 256] ++ putL f.wn 2 true) ++ ([0, 0, 0, 0] ++ opSG f) by simp only [List.append_assoc]]
  exact cut_part _ _ _ _ _ (by simp [putB_len]) (by simp [putB_len])
theorem headS_7 (f : SGR) : cutL (headS f) 20 (20 + (opSG f).length) = opSG f := by
  rw [headS_all, show (putL f.s 2 true ++ (putL f.d 2 true ++ (putL f.q 4 true ++ (putL f.a 4 true ++ ([80 + 4 * ((opSG f).length : Int), f.fl % 256] ++ (putL f.wn 2 true ++ ([0, 0, 0, 0] ++ opSG f))))))) = (putL f.s 2 true ++ putL f.d 2 true ++ putL f.q 4 true ++ putL f.a 4 true ++ [80 + 4 * ((opSG f).length : Int), f.fl % 256] ++ putL f.wn 2 true ++ [0, 0, 0, 0]) ++ (opSG f ++ []) by simp only [List.append_assoc, List.append_nil]]
  exact cut_part _ _ _ _ _ (by simp [putB_len]) rfl
theorem headS_12 (f : SGR) : (headS f).getD 12 0 = 80 + 4 * ((opSG f).length : Int) := by
  have := cutL_getD (xs := headS f) (lo := 12) (hi := 14) (i := 0) (by omega)
  rw [headS_4] at this
  simpa using this.symm
theorem headS_13 (f : SGR) : (headS f).getD 13 0 = f.fl % 256 := by
  have := cutL_getD (xs := headS f) (lo := 12) (hi := 14) (i := 1) (by omega)
  rw [headS_4] at this
  simpa using this.symm
theorem headS_ho (f : SGR) : hoSG (headS f) = 20 + (opSG f).length := by
  unfold hoSG
  rw [headS_12]
  rcases opSG_len f with h | h <;> rw [h] <;> rfl
theorem headAt_S {f : SGR} (hq : u32I f.q) (ha : u32I f.a) {w : World} {v : Value} (hb : Buf w v (headS f)) :
    Calls Try.prog 31 #[v] w fun e w' => e = .returned (.tuple #[.agg #[.int .i64 (f.s % 65536), .int .i64 (f.d % 65536), .int .u32 f.q, .int .u32 f.a, .int .i64 (hN f), .int .i64 (f.fl % 64), .int .i64 (f.wn % 65536), .int .i64 (mM f)], .bool true]) ∧ Grew w w' := by
  obtain ⟨a, c, rfl, _, _⟩ := hb.shape
  have ho := headS_ho f
  have hl := headS_len f
  have h := headAt_yes (by omega) (by omega) (by rw [ho, headS_7, mssV_opS]) hb
  have e2 : ∀ x : Int, getV (putL x 2 true) true = x % 65536 := fun x => by rw [getV_putG x 2 (by omega), show (2 : Int) ^ (8 * 2) = 65536 by decide]
  have e4 : ∀ x : Int, u32I x → getV (putL x 4 true) true = x := fun x hx => getV_putG_eq (by omega) true hx.1 (by rw [show (2 : Int) ^ (8 * 4) = 4294967296 by decide]; exact hx.2)
  rw [ho, headS_7, mssV_opS, headS_0, headS_1, headS_2, headS_3, headS_5, headS_13, e2, e2, e2, e4 _ hq, e4 _ ha, show f.fl % 256 % 64 = f.fl % 64 by omega, show ((20 + (opSG f).length : Nat) : Int) = hN f by unfold hN; omega] at h
  exact h
set_option maxHeartbeats 2000000 in
theorem isSeg_w {f : SGR} {p1 : Option Addr} {k1 : Nat} (hq : u32I f.q) (ha : u32I f.a) (hi : intI f.m) (hx : f.x.length ≤ 140737488355328) (b c : Bool) (hE : ∀ w', (binOp .eql 50 (.agg #[.int .i64 (f.s % 65536), .int .i64 (f.d % 65536), .int .u32 f.q, .int .u32 f.a, .int .i64 (hN f), .int .i64 (f.fl % 64), .int .i64 (f.wn % 65536), .int .i64 (mM f)]) (hdA f)).run Try.prog w' = .ok (.bool b) w') (hc : decide ((f.x.length : Int) ≤ 60000) = c) (w : World) :
    Calls Try.prog 20 #[.agg #[.int .i64 f.s, .int .i64 f.d, .int .u32 f.q, .int .u32 f.a, .int .i64 f.fl, .int .i64 f.wn, .int .i64 f.m, .slice p1 f.x.length k1]] w fun e w' => e = .returned (.bool (b && c)) ∧ Grew w w' := by
  have HA := Lib.hid (fun w' v => headAt_S hq ha (w := w') (v := v))
  have HB := Lib.hid (fun w' => bytesS_c hq ha hi w')
  have HH := Lib.hid (fun w' => headOf_c (f := f) (p1 := p1) (k1 := k1) w')
  unfold hdA at hE HB HH
  clear hq ha hi
  generalize hN f = N at *
  generalize hM : mM f = M at *
  generalize hS : headS f = ys at *
  clear hM hS
  go_enter Try.func20, Try.ntmps20
  go_upto_region 1 with fail
  have hB : Blk (w.alloc (.cells #[.int .i64 f.s, .int .i64 f.d, .int .u32 f.q, .int .u32 f.a, .int .i64 f.fl, .int .i64 f.wn, .int .i64 f.m, .slice p1 f.x.length k1] 25)) w.heap.size #[.int .i64 f.s, .int .i64 f.d, .int .u32 f.q, .int .u32 f.a, .int .i64 f.fl, .int .i64 f.wn, .int .i64 f.m, .slice p1 f.x.length k1] 25 := Blk.new _ _ _ _ rfl
  have g0 : Grew w (w.alloc (.cells #[.int .i64 f.s, .int .i64 f.d, .int .u32 f.q, .int .u32 f.a, .int .i64 f.fl, .int .i64 f.wn, .int .i64 f.m, .slice p1 f.x.length k1] 25)) := (Grew.refl _).alloc _
  generalize (w.alloc (.cells #[.int .i64 f.s, .int .i64 f.d, .int .u32 f.q, .int .u32 f.a, .int .i64 f.fl, .int .i64 f.wn, .int .i64 f.m, .slice p1 f.x.length k1] 25)) = w0 at *
  generalize hlB : w.heap.size = B at *
  have y0 := hB.cell 0
  have y1 := hB.cell 1
  have y2 := hB.cell 2
  have y3 := hB.cell 3
  have y4 := hB.cell 4
  have y5 := hB.cell 5
  have y6 := hB.cell 6
  have y7 := hB.cell 7
  go_upto_region 2 with (go_at_call 22; refine (HH.out _).mono ?_; rintro e w1 ⟨rfl, g1⟩)
  have hH : Blk (w1.alloc (.cells #[.int .i64 f.s, .int .i64 f.d, .int .u32 f.q, .int .u32 f.a, .int .i64 N, .int .i64 f.fl, .int .i64 f.wn, .int .i64 f.m] 50)) w1.heap.size #[.int .i64 f.s, .int .i64 f.d, .int .u32 f.q, .int .u32 f.a, .int .i64 N, .int .i64 f.fl, .int .i64 f.wn, .int .i64 f.m] 50 := Blk.new _ _ _ _ rfl
  have gh : Grew w1 (w1.alloc (.cells #[.int .i64 f.s, .int .i64 f.d, .int .u32 f.q, .int .u32 f.a, .int .i64 N, .int .i64 f.fl, .int .i64 f.wn, .int .i64 f.m] 50)) := (Grew.refl _).alloc _
  generalize (w1.alloc (.cells #[.int .i64 f.s, .int .i64 f.d, .int .u32 f.q, .int .u32 f.a, .int .i64 N, .int .i64 f.fl, .int .i64 f.wn, .int .i64 f.m] 50)) = w2 at *
  generalize hlH : w1.heap.size = H at *
  have hB2 := (hB.grew g1).grew gh
  have G2 := (g0.trans g1).trans gh
  clear hB g0 g1 gh y0 y1 y2 y3 y4 y5 y6 y7
  have z0 := hH.cell 0
  have z1 := hH.cell 1
  have z2 := hH.cell 2
  have z3 := hH.cell 3
  have z4 := hH.cell 4
  have z5 := hH.cell 5
  have z6 := hH.cell 6
  have z7 := hH.cell 7
  go_wp2_with fail
  refine (HB.out _).mono ?_
  rintro e w3 ⟨u, rfl, hbu, g3⟩
  go_wp2_with fail
  refine (HA.out _ _ hbu).mono ?_
  rintro e w4 ⟨rfl, g4⟩
  go_upto_region 3 with fail
  have hX : Blk (w4.alloc (.cells #[.int .i64 (f.s % 65536), .int .i64 (f.d % 65536), .int .u32 f.q, .int .u32 f.a, .int .i64 N, .int .i64 (f.fl % 64), .int .i64 (f.wn % 65536), .int .i64 M] 50)) w4.heap.size #[.int .i64 (f.s % 65536), .int .i64 (f.d % 65536), .int .u32 f.q, .int .u32 f.a, .int .i64 N, .int .i64 (f.fl % 64), .int .i64 (f.wn % 65536), .int .i64 M] 50 := Blk.new _ _ _ _ rfl
  have gx : Grew w4 (w4.alloc (.cells #[.int .i64 (f.s % 65536), .int .i64 (f.d % 65536), .int .u32 f.q, .int .u32 f.a, .int .i64 N, .int .i64 (f.fl % 64), .int .i64 (f.wn % 65536), .int .i64 M] 50)) := (Grew.refl _).alloc _
  generalize (w4.alloc (.cells #[.int .i64 (f.s % 65536), .int .i64 (f.d % 65536), .int .u32 f.q, .int .u32 f.a, .int .i64 N, .int .i64 (f.fl % 64), .int .i64 (f.wn % 65536), .int .i64 M] 50)) = w5 at *
  generalize hlX : w4.heap.size = X at *
  have hH5 := ((hH.grew g3).grew g4).grew gx
  have hB5 := ((hB2.grew g3).grew g4).grew gx
  have G5 := ((G2.trans g3).trans g4).trans gx
  clear hH hB2 G2 g3 g4 gx hbu z0 z1 z2 z3 z4 z5 z6 z7
  have z0 := hH5.cell 0
  have z1 := hH5.cell 1
  have z2 := hH5.cell 2
  have z3 := hH5.cell 3
  have z4 := hH5.cell 4
  have z5 := hH5.cell 5
  have z6 := hH5.cell 6
  have z7 := hH5.cell 7
  have x0 := hX.cell 0
  have x1 := hX.cell 1
  have x2 := hX.cell 2
  have x3 := hX.cell 3
  have x4 := hX.cell 4
  have x5 := hX.cell 5
  have x6 := hX.cell 6
  have x7 := hX.cell 7
  have y7 := hB5.cell 7
  cases b
  · go_wp2_with fail
    go_ret
    exact ⟨rfl, G5⟩
  · cases c
    · go_wp2_with fail
      go_ret
      exact ⟨rfl, G5⟩
    · go_wp2_with fail
      go_ret
      exact ⟨rfl, G5⟩
theorem isSegment_c {v : Value} {f : SGR} {w : World} (hx : f.x.length ≤ 140737488355328) (hv : Sg w v f) :
    Calls Try.prog 20 #[v] w fun e w' => e = .returned (.bool (okSG f)) ∧ Grew w w' := by
  have hq := hv.q
  have ha := hv.a
  have hi := hv.m
  obtain ⟨p1, k1, rfl, b1⟩ := hv.shape
  have h := isSeg_w (p1 := p1) (k1 := k1) hq ha hi hx _ _ (fun w' => head_eql _ _ _ _ _ _ _ _ _ _ _ _ _ _ _ _ w') rfl w
  rw [show okSG f = ((f.s % 65536 == f.s && (f.d % 65536 == f.d && (f.q == f.q && (f.a == f.a && (hN f == hN f && (f.fl % 64 == f.fl && (f.wn % 65536 == f.wn && mM f == f.m))))))) && decide ((f.x.length : Int) ≤ 60000)) from ?_]
  · exact h
  · have em : (mM f == f.m) = wordV f.m := by
      unfold mM wordV
      rw [Bool.eq_iff_iff, beq_iff_eq, decide_eq_true_eq]
      split <;> omega
    have ew : ∀ x : Int, (x % 65536 == x) = wordV x := fun x => by
      unfold wordV
      rw [Bool.eq_iff_iff, beq_iff_eq, decide_eq_true_eq]
      omega
    have ef : (f.fl % 64 == f.fl) = (decide (0 ≤ f.fl) && decide (f.fl ≤ 63)) := by
      rw [Bool.eq_iff_iff, beq_iff_eq, Bool.and_eq_true, decide_eq_true_eq, decide_eq_true_eq]
      omega
    unfold okSG
    rw [em, ew, ew, ew, ef, show decide ((f.x.length : Int) ≤ 60000) = decide (f.x.length ≤ 60000) by rw [Bool.eq_iff_iff, decide_eq_true_eq, decide_eq_true_eq]; omega]
    simp only [beq_self_eq_true, Bool.true_and]
    cases wordV f.s <;> cases wordV f.d <;> cases wordV f.wn <;> cases wordV f.m <;> cases decide (0 ≤ f.fl) <;> cases decide (f.fl ≤ 63) <;> rfl
end Go.Proofs.Ytiaejlbkdgcfiaa
