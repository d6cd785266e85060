/-
  Package dhcp: small functions: numbers and their bytes, an option's size, whether a kind takes it, which messages may be.
-/
import Derived.Test.YtnmffkmpkgmkpaaDhX
import Derived.Test.YtnmffkmpkgmkpaaPutB
set_option maxRecDepth 4000
set_option linter.unusedVariables false
set_option linter.unusedSimpArgs false
namespace Go.Proofs.Ytnmffkmpkgmkpaa
open Go.RowKit

theorem dhLong_c (x : Int) (h : 0 ≤ x ∧ x < 4294967296) (w : World) :
    Calls Try.prog 33 #[.int .u32 x] w fun e w' => ∃ a c, e = .returned (.slice a 4 c) ∧ Buf w' (.slice a 4 c) (putL x 4 true) ∧ Grew w w' := by
  have hw : IntKind.u64.wrap x = x := IntWalk.u64_in x (by omega)
  go_enter Try.func33, Try.ntmps33
  go_wp2_with fail
  try rw [hw]
  refine (putB_c x _ 4 true (by rfl) (by omega) (by omega) (by omega) _).mono ?_
  rintro e w1 ⟨u1, rfl, r1, b1, g1⟩
  obtain ⟨a, c, rfl, _, _⟩ := b1.shape
  rw [putB_len] at b1 ⊢
  have B1 := Lib.hid b1
  clear b1 r1
  go_wp2_with fail
  go_ret
  exact ⟨_, _, rfl, B1.out, g1⟩
theorem dhLongAt_c {v : Value} {xs : List Int} (K : Int) (k k2 : Nat) (hK : K = k) (hk2 : k2 = k + 4) (hk : k2 ≤ xs.length) (w : World) (hb : Buf w v xs) :
    Calls Try.prog 30 #[v, .int .i64 K] w fun e w' => e = .returned (.int .u32 (getV (cutL xs k k2) true)) ∧ w' = w := by
  subst hK hk2
  have hlen := hb.len
  obtain ⟨a, c, rfl, _, _⟩ := hb.shape
  obtain ⟨a', c', hcut, x1, hrun, x3, x4⟩ := hb.run_cut (lo := k) (hi := k + 4) (by omega) (by omega)
  clear x1 x3 x4
  unfold maxLen at hlen
  have hl2 : (cutL xs k (k + 4)).length = 4 := by rw [cutL_length (by omega) hk]; omega
  have e1 : wrap64 ((k : Int) + 4) = ((k + 4 : Nat) : Int) := by rw [IntWalk.wrap64_in _ (by omega)]; omega
  have e2 : IntKind.i64.wrap ((k : Int) + 4) = ((k + 4 : Nat) : Int) := by rw [IntWalk.i64_in _ (by omega)]; omega
  have hr : ∀ w', (Instr.sliceAt 22 (.slice a xs.length c) (some (.int .i64 k)) (some (.int .i64 ((k + 4 : Nat) : Int))) none).run Try.prog w' = .ok (.slice a' 4 c') w' := fun w' => by have := hrun .i64 .i64 w'; rwa [show k + 4 - k = 4 by omega] at this
  rw [show k + 4 - k = 4 by omega] at hcut
  have hg := getG_lt hcut.ok true hl2 (by omega)
  have hw : IntKind.u32.wrap (getV (cutL xs k (k + 4)) true) = getV (cutL xs k (k + 4)) true := IntWalk.u32_in _ (by omega)
  have HG := Lib.hid (fun w' (g : Grew w w') => get_c true (hcut.grew g).ok (by omega) w' (hcut.grew g).bytes)
  clear hrun hg hl2 hcut hb hk hlen
  generalize getV (cutL xs k (k + 4)) true = z at *
  generalize ((k + 4 : Nat) : Int) = k2 at *
  go_enter Try.func30, Try.ntmps30
  go_wp2_with fail
  refine (HG.out _ (Grew.refl _)).mono ?_
  rintro e w1 ⟨rfl, h1⟩
  obtain rfl := h1.symm
  go_wp2_with fail
  go_ret
  exact ⟨by first | rfl | rw [hw], rfl⟩
/-- How many bytes the first option has; 0 if it is none. -/
def oszD (ys : List Int) : Int := if ys.getD 0 0 = 0 then 1 else if ys.length ≤ 1 ∨ (ys.length : Int) < 2 + ys.getD 1 0 then 0 else 2 + ys.getD 1 0
theorem oszD_0 {v : Value} {ys : List Int} (h : ys ≠ []) (h0 : (ys.getD 0 0 == 0) = true) (w : World) (hb : Buf w v ys) :
    Calls Try.prog 28 #[v] w fun e w' => e = .returned (.int .i64 1) ∧ w' = w := by
  have hz0 := hb.ok.getD 0
  have hz1 := hb.ok.getD 1
  have hlen := hb.len
  unfold maxLen at hlen
  have hp : 0 < ys.length := List.length_pos_iff.2 h
  obtain ⟨a, c, rfl, _, ha⟩ := hb.shape
  obtain ⟨bk, off, rfl, hat⟩ := ha h
  have x0 := hat 0 hp
  rw [Nat.add_zero] at x0
  skip
  skip
  skip
  have hp' : (0 : Int) < (ys.length : Int) := by omega
  clear hat ha hb h
  generalize ys.getD 0 0 = y0 at *
  generalize ys.getD 1 0 = y1 at *
  generalize ys.length = n at *
  go_enter Try.func28, Try.ntmps28
  go_wp2_with fail
  go_ret
  exact ⟨rfl, rfl⟩
theorem oszD_1 {v : Value} {ys : List Int} (h : ys ≠ []) (h0 : (ys.getD 0 0 == 0) = false) (h2 : (ys.length : Int) < 2) (w : World) (hb : Buf w v ys) :
    Calls Try.prog 28 #[v] w fun e w' => e = .returned (.int .i64 0) ∧ w' = w := by
  have hz0 := hb.ok.getD 0
  have hz1 := hb.ok.getD 1
  have hlen := hb.len
  unfold maxLen at hlen
  have hp : 0 < ys.length := List.length_pos_iff.2 h
  obtain ⟨a, c, rfl, _, ha⟩ := hb.shape
  obtain ⟨bk, off, rfl, hat⟩ := ha h
  have x0 := hat 0 hp
  rw [Nat.add_zero] at x0
  skip
  skip
  skip
  have hp' : (0 : Int) < (ys.length : Int) := by omega
  clear hat ha hb h
  generalize ys.getD 0 0 = y0 at *
  generalize ys.getD 1 0 = y1 at *
  generalize ys.length = n at *
  go_enter Try.func28, Try.ntmps28
  go_wp2_with fail
  go_ret
  exact ⟨rfl, rfl⟩
theorem oszD_2 {v : Value} {ys : List Int} (h : ys ≠ []) (h0 : (ys.getD 0 0 == 0) = false) (h2 : ¬ (ys.length : Int) < 2) (h4 : (ys.length : Int) < 2 + ys.getD 1 0) (w : World) (hb : Buf w v ys) :
    Calls Try.prog 28 #[v] w fun e w' => e = .returned (.int .i64 0) ∧ w' = w := by
  have hz0 := hb.ok.getD 0
  have hz1 := hb.ok.getD 1
  have hlen := hb.len
  unfold maxLen at hlen
  have hp : 0 < ys.length := List.length_pos_iff.2 h
  obtain ⟨a, c, rfl, _, ha⟩ := hb.shape
  obtain ⟨bk, off, rfl, hat⟩ := ha h
  have x0 := hat 0 hp
  rw [Nat.add_zero] at x0
  have x1 := hat 1 (by omega)
  have hl1 : (1 : Int) < (ys.length : Int) := by omega
  have ew : IntKind.i64.wrap (ys.getD 1 0) = ys.getD 1 0 := IntWalk.i64_in _ (by omega)
  have hp' : (0 : Int) < (ys.length : Int) := by omega
  clear hat ha hb h
  generalize ys.getD 0 0 = y0 at *
  generalize ys.getD 1 0 = y1 at *
  generalize ys.length = n at *
  go_enter Try.func28, Try.ntmps28
  go_wp2_with fail
  go_ret
  exact ⟨rfl, rfl⟩
theorem oszD_3 {v : Value} {ys : List Int} (h : ys ≠ []) (h0 : (ys.getD 0 0 == 0) = false) (h2 : ¬ (ys.length : Int) < 2) (h4 : ¬ (ys.length : Int) < 2 + ys.getD 1 0) (w : World) (hb : Buf w v ys) :
    Calls Try.prog 28 #[v] w fun e w' => e = .returned (.int .i64 (2 + ys.getD 1 0)) ∧ w' = w := by
  have hz0 := hb.ok.getD 0
  have hz1 := hb.ok.getD 1
  have hlen := hb.len
  unfold maxLen at hlen
  have hp : 0 < ys.length := List.length_pos_iff.2 h
  obtain ⟨a, c, rfl, _, ha⟩ := hb.shape
  obtain ⟨bk, off, rfl, hat⟩ := ha h
  have x0 := hat 0 hp
  rw [Nat.add_zero] at x0
  have x1 := hat 1 (by omega)
  have hl1 : (1 : Int) < (ys.length : Int) := by omega
  have ew : IntKind.i64.wrap (ys.getD 1 0) = ys.getD 1 0 := IntWalk.i64_in _ (by omega)
  have hp' : (0 : Int) < (ys.length : Int) := by omega
  clear hat ha hb h
  generalize ys.getD 0 0 = y0 at *
  generalize ys.getD 1 0 = y1 at *
  generalize ys.length = n at *
  go_enter Try.func28, Try.ntmps28
  go_wp2_with fail
  go_ret
  exact ⟨rfl, rfl⟩
theorem oszD_c {v : Value} {ys : List Int} (h : ys ≠ []) (w : World) (hb : Buf w v ys) :
    Calls Try.prog 28 #[v] w fun e w' => e = .returned (.int .i64 (oszD ys)) ∧ w' = w := by
  have hp : 0 < ys.length := List.length_pos_iff.2 h
  unfold oszD
  cases h0 : (ys.getD 0 0 == 0)
  · rw [if_neg (by simpa using h0)]
    by_cases h2 : (ys.length : Int) < 2
    · rw [if_pos (by omega)]; exact oszD_1 h h0 h2 w hb
    · by_cases h4 : (ys.length : Int) < 2 + ys.getD 1 0
      · rw [if_pos (by omega)]; exact oszD_2 h h0 h2 h4 w hb
      · rw [if_neg (by omega)]; exact oszD_3 h h0 h2 h4 w hb
  · rw [if_pos (by simpa using h0)]; exact oszD_0 h h0 w hb
theorem takes_0 (k : Int) (s : Nat) (m : Bool) (n : Int) (l : Nat) (h0 : (k == n) = false) (w : World) :
    Calls Try.prog 38 #[.agg #[.int .u8 k, .int .i64 (s : Nat), .bool m], .int .u8 n, .int .i64 (l : Nat)] w fun e w' => e = .returned (.bool false) ∧ Grew w w' := by
  go_enter Try.func38, Try.ntmps38
  go_upto_region 1 with fail
  have hB : Blk (w.alloc (.cells #[.int .u8 k, .int .i64 (s : Nat), .bool m] 71)) w.heap.size #[.int .u8 k, .int .i64 (s : Nat), .bool m] 71 := Blk.new _ _ _ _ rfl
  have g0 : Grew w (w.alloc (.cells #[.int .u8 k, .int .i64 (s : Nat), .bool m] 71)) := (Grew.refl _).alloc _
  generalize (w.alloc (.cells #[.int .u8 k, .int .i64 (s : Nat), .bool m] 71)) = w0 at *
  generalize hlB : w.heap.size = B at *
  have y0 := hB.cell 0
  have y1 := hB.cell 1
  have y2 := hB.cell 2
  go_wp2_with fail
  go_ret
  exact ⟨rfl, g0⟩
theorem takes_1 (k : Int) (s : Nat) (m : Bool) (n : Int) (l : Nat) (h0 : (k == n) = true) (h1 : ((s : Int) == (l : Int)) = true) (w : World) :
    Calls Try.prog 38 #[.agg #[.int .u8 k, .int .i64 (s : Nat), .bool m], .int .u8 n, .int .i64 (l : Nat)] w fun e w' => e = .returned (.bool true) ∧ Grew w w' := by
  go_enter Try.func38, Try.ntmps38
  go_upto_region 1 with fail
  have hB : Blk (w.alloc (.cells #[.int .u8 k, .int .i64 (s : Nat), .bool m] 71)) w.heap.size #[.int .u8 k, .int .i64 (s : Nat), .bool m] 71 := Blk.new _ _ _ _ rfl
  have g0 : Grew w (w.alloc (.cells #[.int .u8 k, .int .i64 (s : Nat), .bool m] 71)) := (Grew.refl _).alloc _
  generalize (w.alloc (.cells #[.int .u8 k, .int .i64 (s : Nat), .bool m] 71)) = w0 at *
  generalize hlB : w.heap.size = B at *
  have y0 := hB.cell 0
  have y1 := hB.cell 1
  have y2 := hB.cell 2
  go_wp2_with fail
  go_ret
  exact ⟨rfl, g0⟩
theorem takes_2 (k : Int) (s : Nat) (n : Int) (l : Nat) (h0 : (k == n) = true) (h1 : ((s : Int) == (l : Int)) = false) (w : World) :
    Calls Try.prog 38 #[.agg #[.int .u8 k, .int .i64 (s : Nat), .bool false], .int .u8 n, .int .i64 (l : Nat)] w fun e w' => e = .returned (.bool false) ∧ Grew w w' := by
  go_enter Try.func38, Try.ntmps38
  go_upto_region 1 with fail
  have hB : Blk (w.alloc (.cells #[.int .u8 k, .int .i64 (s : Nat), .bool false] 71)) w.heap.size #[.int .u8 k, .int .i64 (s : Nat), .bool false] 71 := Blk.new _ _ _ _ rfl
  have g0 : Grew w (w.alloc (.cells #[.int .u8 k, .int .i64 (s : Nat), .bool false] 71)) := (Grew.refl _).alloc _
  generalize (w.alloc (.cells #[.int .u8 k, .int .i64 (s : Nat), .bool false] 71)) = w0 at *
  generalize hlB : w.heap.size = B at *
  have y0 := hB.cell 0
  have y1 := hB.cell 1
  have y2 := hB.cell 2
  go_wp2_with fail
  go_ret
  exact ⟨rfl, g0⟩
theorem takes_3 (k : Int) (s : Nat) (n : Int) (l : Nat) (h0 : (k == n) = true) (h1 : ((s : Int) == (l : Int)) = false) (h3 : decide (s < l) = false) (w : World) :
    Calls Try.prog 38 #[.agg #[.int .u8 k, .int .i64 (s : Nat), .bool true], .int .u8 n, .int .i64 (l : Nat)] w fun e w' => e = .returned (.bool false) ∧ Grew w w' := by
  go_enter Try.func38, Try.ntmps38
  go_upto_region 1 with fail
  have hB : Blk (w.alloc (.cells #[.int .u8 k, .int .i64 (s : Nat), .bool true] 71)) w.heap.size #[.int .u8 k, .int .i64 (s : Nat), .bool true] 71 := Blk.new _ _ _ _ rfl
  have g0 : Grew w (w.alloc (.cells #[.int .u8 k, .int .i64 (s : Nat), .bool true] 71)) := (Grew.refl _).alloc _
  generalize (w.alloc (.cells #[.int .u8 k, .int .i64 (s : Nat), .bool true] 71)) = w0 at *
  generalize hlB : w.heap.size = B at *
  have y0 := hB.cell 0
  have y1 := hB.cell 1
  have y2 := hB.cell 2
  go_wp2_with fail
  go_ret
  exact ⟨rfl, g0⟩
theorem takes_4 (k : Int) (s : Nat) (n : Int) (l : Nat) (h0 : (k == n) = true) (h1 : ((s : Int) == (l : Int)) = false) (h3 : decide (s < l) = true) (w : World) :
    Calls Try.prog 38 #[.agg #[.int .u8 k, .int .i64 (s : Nat), .bool true], .int .u8 n, .int .i64 (l : Nat)] w fun e w' => e = .returned (.bool true) ∧ Grew w w' := by
  go_enter Try.func38, Try.ntmps38
  go_upto_region 1 with fail
  have hB : Blk (w.alloc (.cells #[.int .u8 k, .int .i64 (s : Nat), .bool true] 71)) w.heap.size #[.int .u8 k, .int .i64 (s : Nat), .bool true] 71 := Blk.new _ _ _ _ rfl
  have g0 : Grew w (w.alloc (.cells #[.int .u8 k, .int .i64 (s : Nat), .bool true] 71)) := (Grew.refl _).alloc _
  generalize (w.alloc (.cells #[.int .u8 k, .int .i64 (s : Nat), .bool true] 71)) = w0 at *
  generalize hlB : w.heap.size = B at *
  have y0 := hB.cell 0
  have y1 := hB.cell 1
  have y2 := hB.cell 2
  go_wp2_with fail
  go_ret
  exact ⟨rfl, g0⟩
theorem takes_c (k : Int) (s : Nat) (m : Bool) (n : Int) (l : Nat) (w : World) :
    Calls Try.prog 38 #[.agg #[.int .u8 k, .int .i64 (s : Nat), .bool m], .int .u8 n, .int .i64 (l : Nat)] w fun e w' => e = .returned (.bool (k == n && fitsV s m l)) ∧ Grew w w' := by
  cases h0 : (k == n)
  · rw [Bool.false_and]; exact takes_0 k s m n l h0 w
  · rw [Bool.true_and]
    unfold fitsV
    cases h1 : ((s : Int) == (l : Int))
    · have e1 : (l == s) = false := by rw [beq_eq_false_iff_ne] at h1 ⊢; omega
      rw [e1, Bool.false_or]
      cases m
      · rw [Bool.false_and]; exact takes_2 k s n l h0 h1 w
      · rw [Bool.true_and]
        cases h3 : decide (s < l)
        · exact takes_3 k s n l h0 h1 h3 w
        · exact takes_4 k s n l h0 h1 h3 w
    · have e1 : (l == s) = true := by rw [beq_iff_eq] at h1 ⊢; omega
      rw [e1, Bool.true_or]
      exact takes_1 k s m n l h0 h1 w
theorem isMsg_0 {f : DHR} {p1 : Option Addr} {k1 : Nat} (h0 : (f.op == 1) = false) (h9 : (f.op == 2) = false) (w : World) :
    Calls Try.prog 18 #[.agg #[.int .i64 f.op, .int .u32 f.xid, .int .u32 f.ci, .int .u32 f.yi, .slice p1 f.x.length k1, .int .i64 f.ty, .int .u32 f.wa, .int .u32 f.se, .int .u32 f.le, .int .u32 f.ma, .int .u32 f.ro, .int .u32 f.dn]] w fun e w' => e = .returned (.bool false) ∧ Grew w w' := by
  go_enter Try.func18, Try.ntmps18
  go_upto_region 1 with fail
  have hB : Blk (w.alloc (.cells #[.int .i64 f.op, .int .u32 f.xid, .int .u32 f.ci, .int .u32 f.yi, .slice p1 f.x.length k1, .int .i64 f.ty, .int .u32 f.wa, .int .u32 f.se, .int .u32 f.le, .int .u32 f.ma, .int .u32 f.ro, .int .u32 f.dn] 26)) w.heap.size #[.int .i64 f.op, .int .u32 f.xid, .int .u32 f.ci, .int .u32 f.yi, .slice p1 f.x.length k1, .int .i64 f.ty, .int .u32 f.wa, .int .u32 f.se, .int .u32 f.le, .int .u32 f.ma, .int .u32 f.ro, .int .u32 f.dn] 26 := Blk.new _ _ _ _ rfl
  have g0 : Grew w (w.alloc (.cells #[.int .i64 f.op, .int .u32 f.xid, .int .u32 f.ci, .int .u32 f.yi, .slice p1 f.x.length k1, .int .i64 f.ty, .int .u32 f.wa, .int .u32 f.se, .int .u32 f.le, .int .u32 f.ma, .int .u32 f.ro, .int .u32 f.dn] 26)) := (Grew.refl _).alloc _
  generalize (w.alloc (.cells #[.int .i64 f.op, .int .u32 f.xid, .int .u32 f.ci, .int .u32 f.yi, .slice p1 f.x.length k1, .int .i64 f.ty, .int .u32 f.wa, .int .u32 f.se, .int .u32 f.le, .int .u32 f.ma, .int .u32 f.ro, .int .u32 f.dn] 26)) = w0 at *
  generalize hlB : w.heap.size = B at *
  have y0 := hB.cell 0
  have y4 := hB.cell 4
  have y5 := hB.cell 5
  go_wp2_with fail
  go_ret
  exact ⟨rfl, g0⟩
theorem isMsg_a1 {f : DHR} {p1 : Option Addr} {k1 : Nat} (h0 : (f.op == 1) = true) (h1 : ((f.x.length : Int) == 6) = false) (w : World) :
    Calls Try.prog 18 #[.agg #[.int .i64 f.op, .int .u32 f.xid, .int .u32 f.ci, .int .u32 f.yi, .slice p1 f.x.length k1, .int .i64 f.ty, .int .u32 f.wa, .int .u32 f.se, .int .u32 f.le, .int .u32 f.ma, .int .u32 f.ro, .int .u32 f.dn]] w fun e w' => e = .returned (.bool false) ∧ Grew w w' := by
  go_enter Try.func18, Try.ntmps18
  go_upto_region 1 with fail
  have hB : Blk (w.alloc (.cells #[.int .i64 f.op, .int .u32 f.xid, .int .u32 f.ci, .int .u32 f.yi, .slice p1 f.x.length k1, .int .i64 f.ty, .int .u32 f.wa, .int .u32 f.se, .int .u32 f.le, .int .u32 f.ma, .int .u32 f.ro, .int .u32 f.dn] 26)) w.heap.size #[.int .i64 f.op, .int .u32 f.xid, .int .u32 f.ci, .int .u32 f.yi, .slice p1 f.x.length k1, .int .i64 f.ty, .int .u32 f.wa, .int .u32 f.se, .int .u32 f.le, .int .u32 f.ma, .int .u32 f.ro, .int .u32 f.dn] 26 := Blk.new _ _ _ _ rfl
  have g0 : Grew w (w.alloc (.cells #[.int .i64 f.op, .int .u32 f.xid, .int .u32 f.ci, .int .u32 f.yi, .slice p1 f.x.length k1, .int .i64 f.ty, .int .u32 f.wa, .int .u32 f.se, .int .u32 f.le, .int .u32 f.ma, .int .u32 f.ro, .int .u32 f.dn] 26)) := (Grew.refl _).alloc _
  generalize (w.alloc (.cells #[.int .i64 f.op, .int .u32 f.xid, .int .u32 f.ci, .int .u32 f.yi, .slice p1 f.x.length k1, .int .i64 f.ty, .int .u32 f.wa, .int .u32 f.se, .int .u32 f.le, .int .u32 f.ma, .int .u32 f.ro, .int .u32 f.dn] 26)) = w0 at *
  generalize hlB : w.heap.size = B at *
  have y0 := hB.cell 0
  have y4 := hB.cell 4
  have y5 := hB.cell 5
  go_wp2_with fail
  go_ret
  exact ⟨rfl, g0⟩
theorem isMsg_a2 {f : DHR} {p1 : Option Addr} {k1 : Nat} (h0 : (f.op == 1) = true) (h1 : ((f.x.length : Int) == 6) = true) (h2 : decide (1 ≤ f.ty) = false) (w : World) :
    Calls Try.prog 18 #[.agg #[.int .i64 f.op, .int .u32 f.xid, .int .u32 f.ci, .int .u32 f.yi, .slice p1 f.x.length k1, .int .i64 f.ty, .int .u32 f.wa, .int .u32 f.se, .int .u32 f.le, .int .u32 f.ma, .int .u32 f.ro, .int .u32 f.dn]] w fun e w' => e = .returned (.bool false) ∧ Grew w w' := by
  go_enter Try.func18, Try.ntmps18
  go_upto_region 1 with fail
  have hB : Blk (w.alloc (.cells #[.int .i64 f.op, .int .u32 f.xid, .int .u32 f.ci, .int .u32 f.yi, .slice p1 f.x.length k1, .int .i64 f.ty, .int .u32 f.wa, .int .u32 f.se, .int .u32 f.le, .int .u32 f.ma, .int .u32 f.ro, .int .u32 f.dn] 26)) w.heap.size #[.int .i64 f.op, .int .u32 f.xid, .int .u32 f.ci, .int .u32 f.yi, .slice p1 f.x.length k1, .int .i64 f.ty, .int .u32 f.wa, .int .u32 f.se, .int .u32 f.le, .int .u32 f.ma, .int .u32 f.ro, .int .u32 f.dn] 26 := Blk.new _ _ _ _ rfl
  have g0 : Grew w (w.alloc (.cells #[.int .i64 f.op, .int .u32 f.xid, .int .u32 f.ci, .int .u32 f.yi, .slice p1 f.x.length k1, .int .i64 f.ty, .int .u32 f.wa, .int .u32 f.se, .int .u32 f.le, .int .u32 f.ma, .int .u32 f.ro, .int .u32 f.dn] 26)) := (Grew.refl _).alloc _
  generalize (w.alloc (.cells #[.int .i64 f.op, .int .u32 f.xid, .int .u32 f.ci, .int .u32 f.yi, .slice p1 f.x.length k1, .int .i64 f.ty, .int .u32 f.wa, .int .u32 f.se, .int .u32 f.le, .int .u32 f.ma, .int .u32 f.ro, .int .u32 f.dn] 26)) = w0 at *
  generalize hlB : w.heap.size = B at *
  have y0 := hB.cell 0
  have y4 := hB.cell 4
  have y5 := hB.cell 5
  go_wp2_with fail
  go_ret
  exact ⟨rfl, g0⟩
theorem isMsg_a3 {f : DHR} {p1 : Option Addr} {k1 : Nat} (h0 : (f.op == 1) = true) (h1 : ((f.x.length : Int) == 6) = true) (h2 : decide (1 ≤ f.ty) = true) (h3 : decide (f.ty ≤ 8) = false) (w : World) :
    Calls Try.prog 18 #[.agg #[.int .i64 f.op, .int .u32 f.xid, .int .u32 f.ci, .int .u32 f.yi, .slice p1 f.x.length k1, .int .i64 f.ty, .int .u32 f.wa, .int .u32 f.se, .int .u32 f.le, .int .u32 f.ma, .int .u32 f.ro, .int .u32 f.dn]] w fun e w' => e = .returned (.bool false) ∧ Grew w w' := by
  go_enter Try.func18, Try.ntmps18
  go_upto_region 1 with fail
  have hB : Blk (w.alloc (.cells #[.int .i64 f.op, .int .u32 f.xid, .int .u32 f.ci, .int .u32 f.yi, .slice p1 f.x.length k1, .int .i64 f.ty, .int .u32 f.wa, .int .u32 f.se, .int .u32 f.le, .int .u32 f.ma, .int .u32 f.ro, .int .u32 f.dn] 26)) w.heap.size #[.int .i64 f.op, .int .u32 f.xid, .int .u32 f.ci, .int .u32 f.yi, .slice p1 f.x.length k1, .int .i64 f.ty, .int .u32 f.wa, .int .u32 f.se, .int .u32 f.le, .int .u32 f.ma, .int .u32 f.ro, .int .u32 f.dn] 26 := Blk.new _ _ _ _ rfl
  have g0 : Grew w (w.alloc (.cells #[.int .i64 f.op, .int .u32 f.xid, .int .u32 f.ci, .int .u32 f.yi, .slice p1 f.x.length k1, .int .i64 f.ty, .int .u32 f.wa, .int .u32 f.se, .int .u32 f.le, .int .u32 f.ma, .int .u32 f.ro, .int .u32 f.dn] 26)) := (Grew.refl _).alloc _
  generalize (w.alloc (.cells #[.int .i64 f.op, .int .u32 f.xid, .int .u32 f.ci, .int .u32 f.yi, .slice p1 f.x.length k1, .int .i64 f.ty, .int .u32 f.wa, .int .u32 f.se, .int .u32 f.le, .int .u32 f.ma, .int .u32 f.ro, .int .u32 f.dn] 26)) = w0 at *
  generalize hlB : w.heap.size = B at *
  have y0 := hB.cell 0
  have y4 := hB.cell 4
  have y5 := hB.cell 5
  go_wp2_with fail
  go_ret
  exact ⟨rfl, g0⟩
theorem isMsg_a4 {f : DHR} {p1 : Option Addr} {k1 : Nat} (h0 : (f.op == 1) = true) (h1 : ((f.x.length : Int) == 6) = true) (h2 : decide (1 ≤ f.ty) = true) (h3 : decide (f.ty ≤ 8) = true) (w : World) :
    Calls Try.prog 18 #[.agg #[.int .i64 f.op, .int .u32 f.xid, .int .u32 f.ci, .int .u32 f.yi, .slice p1 f.x.length k1, .int .i64 f.ty, .int .u32 f.wa, .int .u32 f.se, .int .u32 f.le, .int .u32 f.ma, .int .u32 f.ro, .int .u32 f.dn]] w fun e w' => e = .returned (.bool true) ∧ Grew w w' := by
  go_enter Try.func18, Try.ntmps18
  go_upto_region 1 with fail
  have hB : Blk (w.alloc (.cells #[.int .i64 f.op, .int .u32 f.xid, .int .u32 f.ci, .int .u32 f.yi, .slice p1 f.x.length k1, .int .i64 f.ty, .int .u32 f.wa, .int .u32 f.se, .int .u32 f.le, .int .u32 f.ma, .int .u32 f.ro, .int .u32 f.dn] 26)) w.heap.size #[.int .i64 f.op, .int .u32 f.xid, .int .u32 f.ci, .int .u32 f.yi, .slice p1 f.x.length k1, .int .i64 f.ty, .int .u32 f.wa, .int .u32 f.se, .int .u32 f.le, .int .u32 f.ma, .int .u32 f.ro, .int .u32 f.dn] 26 := Blk.new _ _ _ _ rfl
  have g0 : Grew w (w.alloc (.cells #[.int .i64 f.op, .int .u32 f.xid, .int .u32 f.ci, .int .u32 f.yi, .slice p1 f.x.length k1, .int .i64 f.ty, .int .u32 f.wa, .int .u32 f.se, .int .u32 f.le, .int .u32 f.ma, .int .u32 f.ro, .int .u32 f.dn] 26)) := (Grew.refl _).alloc _
  generalize (w.alloc (.cells #[.int .i64 f.op, .int .u32 f.xid, .int .u32 f.ci, .int .u32 f.yi, .slice p1 f.x.length k1, .int .i64 f.ty, .int .u32 f.wa, .int .u32 f.se, .int .u32 f.le, .int .u32 f.ma, .int .u32 f.ro, .int .u32 f.dn] 26)) = w0 at *
  generalize hlB : w.heap.size = B at *
  have y0 := hB.cell 0
  have y4 := hB.cell 4
  have y5 := hB.cell 5
  go_wp2_with fail
  go_ret
  exact ⟨rfl, g0⟩
theorem isMsg_b1 {f : DHR} {p1 : Option Addr} {k1 : Nat} (h0 : (f.op == 1) = false) (h9 : (f.op == 2) = true) (h1 : ((f.x.length : Int) == 6) = false) (w : World) :
    Calls Try.prog 18 #[.agg #[.int .i64 f.op, .int .u32 f.xid, .int .u32 f.ci, .int .u32 f.yi, .slice p1 f.x.length k1, .int .i64 f.ty, .int .u32 f.wa, .int .u32 f.se, .int .u32 f.le, .int .u32 f.ma, .int .u32 f.ro, .int .u32 f.dn]] w fun e w' => e = .returned (.bool false) ∧ Grew w w' := by
  go_enter Try.func18, Try.ntmps18
  go_upto_region 1 with fail
  have hB : Blk (w.alloc (.cells #[.int .i64 f.op, .int .u32 f.xid, .int .u32 f.ci, .int .u32 f.yi, .slice p1 f.x.length k1, .int .i64 f.ty, .int .u32 f.wa, .int .u32 f.se, .int .u32 f.le, .int .u32 f.ma, .int .u32 f.ro, .int .u32 f.dn] 26)) w.heap.size #[.int .i64 f.op, .int .u32 f.xid, .int .u32 f.ci, .int .u32 f.yi, .slice p1 f.x.length k1, .int .i64 f.ty, .int .u32 f.wa, .int .u32 f.se, .int .u32 f.le, .int .u32 f.ma, .int .u32 f.ro, .int .u32 f.dn] 26 := Blk.new _ _ _ _ rfl
  have g0 : Grew w (w.alloc (.cells #[.int .i64 f.op, .int .u32 f.xid, .int .u32 f.ci, .int .u32 f.yi, .slice p1 f.x.length k1, .int .i64 f.ty, .int .u32 f.wa, .int .u32 f.se, .int .u32 f.le, .int .u32 f.ma, .int .u32 f.ro, .int .u32 f.dn] 26)) := (Grew.refl _).alloc _
  generalize (w.alloc (.cells #[.int .i64 f.op, .int .u32 f.xid, .int .u32 f.ci, .int .u32 f.yi, .slice p1 f.x.length k1, .int .i64 f.ty, .int .u32 f.wa, .int .u32 f.se, .int .u32 f.le, .int .u32 f.ma, .int .u32 f.ro, .int .u32 f.dn] 26)) = w0 at *
  generalize hlB : w.heap.size = B at *
  have y0 := hB.cell 0
  have y4 := hB.cell 4
  have y5 := hB.cell 5
  go_wp2_with fail
  go_ret
  exact ⟨rfl, g0⟩
theorem isMsg_b2 {f : DHR} {p1 : Option Addr} {k1 : Nat} (h0 : (f.op == 1) = false) (h9 : (f.op == 2) = true) (h1 : ((f.x.length : Int) == 6) = true) (h2 : decide (1 ≤ f.ty) = false) (w : World) :
    Calls Try.prog 18 #[.agg #[.int .i64 f.op, .int .u32 f.xid, .int .u32 f.ci, .int .u32 f.yi, .slice p1 f.x.length k1, .int .i64 f.ty, .int .u32 f.wa, .int .u32 f.se, .int .u32 f.le, .int .u32 f.ma, .int .u32 f.ro, .int .u32 f.dn]] w fun e w' => e = .returned (.bool false) ∧ Grew w w' := by
  go_enter Try.func18, Try.ntmps18
  go_upto_region 1 with fail
  have hB : Blk (w.alloc (.cells #[.int .i64 f.op, .int .u32 f.xid, .int .u32 f.ci, .int .u32 f.yi, .slice p1 f.x.length k1, .int .i64 f.ty, .int .u32 f.wa, .int .u32 f.se, .int .u32 f.le, .int .u32 f.ma, .int .u32 f.ro, .int .u32 f.dn] 26)) w.heap.size #[.int .i64 f.op, .int .u32 f.xid, .int .u32 f.ci, .int .u32 f.yi, .slice p1 f.x.length k1, .int .i64 f.ty, .int .u32 f.wa, .int .u32 f.se, .int .u32 f.le, .int .u32 f.ma, .int .u32 f.ro, .int .u32 f.dn] 26 := Blk.new _ _ _ _ rfl
  have g0 : Grew w (w.alloc (.cells #[.int .i64 f.op, .int .u32 f.xid, .int .u32 f.ci, .int .u32 f.yi, .slice p1 f.x.length k1, .int .i64 f.ty, .int .u32 f.wa, .int .u32 f.se, .int .u32 f.le, .int .u32 f.ma, .int .u32 f.ro, .int .u32 f.dn] 26)) := (Grew.refl _).alloc _
  generalize (w.alloc (.cells #[.int .i64 f.op, .int .u32 f.xid, .int .u32 f.ci, .int .u32 f.yi, .slice p1 f.x.length k1, .int .i64 f.ty, .int .u32 f.wa, .int .u32 f.se, .int .u32 f.le, .int .u32 f.ma, .int .u32 f.ro, .int .u32 f.dn] 26)) = w0 at *
  generalize hlB : w.heap.size = B at *
  have y0 := hB.cell 0
  have y4 := hB.cell 4
  have y5 := hB.cell 5
  go_wp2_with fail
  go_ret
  exact ⟨rfl, g0⟩
theorem isMsg_b3 {f : DHR} {p1 : Option Addr} {k1 : Nat} (h0 : (f.op == 1) = false) (h9 : (f.op == 2) = true) (h1 : ((f.x.length : Int) == 6) = true) (h2 : decide (1 ≤ f.ty) = true) (h3 : decide (f.ty ≤ 8) = false) (w : World) :
    Calls Try.prog 18 #[.agg #[.int .i64 f.op, .int .u32 f.xid, .int .u32 f.ci, .int .u32 f.yi, .slice p1 f.x.length k1, .int .i64 f.ty, .int .u32 f.wa, .int .u32 f.se, .int .u32 f.le, .int .u32 f.ma, .int .u32 f.ro, .int .u32 f.dn]] w fun e w' => e = .returned (.bool false) ∧ Grew w w' := by
  go_enter Try.func18, Try.ntmps18
  go_upto_region 1 with fail
  have hB : Blk (w.alloc (.cells #[.int .i64 f.op, .int .u32 f.xid, .int .u32 f.ci, .int .u32 f.yi, .slice p1 f.x.length k1, .int .i64 f.ty, .int .u32 f.wa, .int .u32 f.se, .int .u32 f.le, .int .u32 f.ma, .int .u32 f.ro, .int .u32 f.dn] 26)) w.heap.size #[.int .i64 f.op, .int .u32 f.xid, .int .u32 f.ci, .int .u32 f.yi, .slice p1 f.x.length k1, .int .i64 f.ty, .int .u32 f.wa, .int .u32 f.se, .int .u32 f.le, .int .u32 f.ma, .int .u32 f.ro, .int .u32 f.dn] 26 := Blk.new _ _ _ _ rfl
  have g0 : Grew w (w.alloc (.cells #[.int .i64 f.op, .int .u32 f.xid, .int .u32 f.ci, .int .u32 f.yi, .slice p1 f.x.length k1, .int .i64 f.ty, .int .u32 f.wa, .int .u32 f.se, .int .u32 f.le, .int .u32 f.ma, .int .u32 f.ro, .int .u32 f.dn] 26)) := (Grew.refl _).alloc _
  generalize (w.alloc (.cells #[.int .i64 f.op, .int .u32 f.xid, .int .u32 f.ci, .int .u32 f.yi, .slice p1 f.x.length k1, .int .i64 f.ty, .int .u32 f.wa, .int .u32 f.se, .int .u32 f.le, .int .u32 f.ma, .int .u32 f.ro, .int .u32 f.dn] 26)) = w0 at *
  generalize hlB : w.heap.size = B at *
  have y0 := hB.cell 0
  have y4 := hB.cell 4
  have y5 := hB.cell 5
  go_wp2_with fail
  go_ret
  exact ⟨rfl, g0⟩
theorem isMsg_b4 {f : DHR} {p1 : Option Addr} {k1 : Nat} (h0 : (f.op == 1) = false) (h9 : (f.op == 2) = true) (h1 : ((f.x.length : Int) == 6) = true) (h2 : decide (1 ≤ f.ty) = true) (h3 : decide (f.ty ≤ 8) = true) (w : World) :
    Calls Try.prog 18 #[.agg #[.int .i64 f.op, .int .u32 f.xid, .int .u32 f.ci, .int .u32 f.yi, .slice p1 f.x.length k1, .int .i64 f.ty, .int .u32 f.wa, .int .u32 f.se, .int .u32 f.le, .int .u32 f.ma, .int .u32 f.ro, .int .u32 f.dn]] w fun e w' => e = .returned (.bool true) ∧ Grew w w' := by
  go_enter Try.func18, Try.ntmps18
  go_upto_region 1 with fail
  have hB : Blk (w.alloc (.cells #[.int .i64 f.op, .int .u32 f.xid, .int .u32 f.ci, .int .u32 f.yi, .slice p1 f.x.length k1, .int .i64 f.ty, .int .u32 f.wa, .int .u32 f.se, .int .u32 f.le, .int .u32 f.ma, .int .u32 f.ro, .int .u32 f.dn] 26)) w.heap.size #[.int .i64 f.op, .int .u32 f.xid, .int .u32 f.ci, .int .u32 f.yi, .slice p1 f.x.length k1, .int .i64 f.ty, .int .u32 f.wa, .int .u32 f.se, .int .u32 f.le, .int .u32 f.ma, .int .u32 f.ro, .int .u32 f.dn] 26 := Blk.new _ _ _ _ rfl
  have g0 : Grew w (w.alloc (.cells #[.int .i64 f.op, .int .u32 f.xid, .int .u32 f.ci, .int .u32 f.yi, .slice p1 f.x.length k1, .int .i64 f.ty, .int .u32 f.wa, .int .u32 f.se, .int .u32 f.le, .int .u32 f.ma, .int .u32 f.ro, .int .u32 f.dn] 26)) := (Grew.refl _).alloc _
  generalize (w.alloc (.cells #[.int .i64 f.op, .int .u32 f.xid, .int .u32 f.ci, .int .u32 f.yi, .slice p1 f.x.length k1, .int .i64 f.ty, .int .u32 f.wa, .int .u32 f.se, .int .u32 f.le, .int .u32 f.ma, .int .u32 f.ro, .int .u32 f.dn] 26)) = w0 at *
  generalize hlB : w.heap.size = B at *
  have y0 := hB.cell 0
  have y4 := hB.cell 4
  have y5 := hB.cell 5
  go_wp2_with fail
  go_ret
  exact ⟨rfl, g0⟩
theorem isMsg_c {v : Value} {f : DHR} {w : World} (hv : Dh w v f) :
    Calls Try.prog 18 #[v] w fun e w' => e = .returned (.bool (okDH f)) ∧ Grew w w' := by
  obtain ⟨p1, k1, rfl, b1⟩ := hv.shape
  cases h0 : (f.op == 1)
  · cases h9 : (f.op == 2)
    · rw [show okDH f = false by unfold okDH; rw [h0, h9]; rfl]; exact isMsg_0 h0 h9 w
    · cases h1 : ((f.x.length : Int) == 6)
      · rw [show okDH f = false by unfold okDH; rw [show decide (f.x.length = 6) = false by rw [beq_eq_false_iff_ne] at h1; exact decide_eq_false (by omega)]; simp]; exact isMsg_b1 h0 h9 h1 w
      · have e1 : decide (f.x.length = 6) = true := by rw [beq_iff_eq] at h1; exact decide_eq_true (by omega)
        cases h2 : decide (1 ≤ f.ty)
        · rw [show okDH f = false by unfold okDH; rw [h2]; simp]; exact isMsg_b2 h0 h9 h1 h2 w
        · cases h3 : decide (f.ty ≤ 8)
          · rw [show okDH f = false by unfold okDH; rw [h3]; simp]; exact isMsg_b3 h0 h9 h1 h2 h3 w
          · rw [show okDH f = true by unfold okDH; rw [e1, h2, h3, h0, h9]; rfl]; exact isMsg_b4 h0 h9 h1 h2 h3 w
  · cases h1 : ((f.x.length : Int) == 6)
    · rw [show okDH f = false by unfold okDH; rw [show decide (f.x.length = 6) = false by rw [beq_eq_false_iff_ne] at h1; exact decide_eq_false (by omega)]; simp]; exact isMsg_a1 h0 h1 w
    · have e1 : decide (f.x.length = 6) = true := by rw [beq_iff_eq] at h1; exact decide_eq_true (by omega)
      cases h2 : decide (1 ≤ f.ty)
      · rw [show okDH f = false by unfold okDH; rw [h2]; simp]; exact isMsg_a2 h0 h1 h2 w
      · cases h3 : decide (f.ty ≤ 8)
        · rw [show okDH f = false by unfold okDH; rw [h3]; simp]; exact isMsg_a3 h0 h1 h2 h3 w
        · rw [show okDH f = true by unfold okDH; rw [e1, h2, h3, h0]; rfl]; exact isMsg_a4 h0 h1 h2 h3 w
def ihD (b : List Int) : Bool := b.getD 1 0 == 1 && b.getD 2 0 == 6 && getV (cutL b 236 240) true == 1669485411
theorem isHead_0 {v : Value} {b : List Int} (hl : 240 ≤ b.length) (h0 : (b.getD 1 0 == 1) = false) (w : World) (hb : Buf w v b) :
    Calls Try.prog 17 #[v] w fun e w' => e = .returned (.bool false) ∧ w' = w := by
  have HA := Lib.hid (dhLongAt_c 236 236 240 (by rfl) rfl hl w hb)
  obtain ⟨a, c, rfl, _, ha⟩ := hb.shape
  obtain ⟨bk, off, rfl, hat⟩ := ha (by rintro rfl; simp at hl)
  have x1 := hat 1 (by omega)
  have x2 := hat 2 (by omega)
  have l1 : (1 : Int) < (b.length : Int) := by omega
  have l2 : (2 : Int) < (b.length : Int) := by omega
  clear hat ha hb hl
  generalize getV (cutL b 236 240) true = z at *
  generalize b.getD 1 0 = y1 at *
  generalize b.getD 2 0 = y2 at *
  generalize b.length = n at *
  go_enter Try.func17, Try.ntmps17
  go_wp2_with fail
  go_ret
  exact ⟨rfl, rfl⟩
theorem isHead_1 {v : Value} {b : List Int} (hl : 240 ≤ b.length) (h0 : (b.getD 1 0 == 1) = true) (h1 : (b.getD 2 0 == 6) = false) (w : World) (hb : Buf w v b) :
    Calls Try.prog 17 #[v] w fun e w' => e = .returned (.bool false) ∧ w' = w := by
  have HA := Lib.hid (dhLongAt_c 236 236 240 (by rfl) rfl hl w hb)
  obtain ⟨a, c, rfl, _, ha⟩ := hb.shape
  obtain ⟨bk, off, rfl, hat⟩ := ha (by rintro rfl; simp at hl)
  have x1 := hat 1 (by omega)
  have x2 := hat 2 (by omega)
  have l1 : (1 : Int) < (b.length : Int) := by omega
  have l2 : (2 : Int) < (b.length : Int) := by omega
  clear hat ha hb hl
  generalize getV (cutL b 236 240) true = z at *
  generalize b.getD 1 0 = y1 at *
  generalize b.getD 2 0 = y2 at *
  generalize b.length = n at *
  go_enter Try.func17, Try.ntmps17
  go_wp2_with fail
  go_ret
  exact ⟨rfl, rfl⟩
theorem isHead_2 {v : Value} {b : List Int} (hl : 240 ≤ b.length) (h0 : (b.getD 1 0 == 1) = true) (h1 : (b.getD 2 0 == 6) = true) (h2 : (getV (cutL b 236 240) true == 1669485411) = false) (w : World) (hb : Buf w v b) :
    Calls Try.prog 17 #[v] w fun e w' => e = .returned (.bool false) ∧ w' = w := by
  have HA := Lib.hid (dhLongAt_c 236 236 240 (by rfl) rfl hl w hb)
  obtain ⟨a, c, rfl, _, ha⟩ := hb.shape
  obtain ⟨bk, off, rfl, hat⟩ := ha (by rintro rfl; simp at hl)
  have x1 := hat 1 (by omega)
  have x2 := hat 2 (by omega)
  have l1 : (1 : Int) < (b.length : Int) := by omega
  have l2 : (2 : Int) < (b.length : Int) := by omega
  clear hat ha hb hl
  generalize getV (cutL b 236 240) true = z at *
  generalize b.getD 1 0 = y1 at *
  generalize b.getD 2 0 = y2 at *
  generalize b.length = n at *
  go_enter Try.func17, Try.ntmps17
  go_wp2_with fail
  refine HA.out.mono ?_
  rintro e wx ⟨rfl, hx⟩
  obtain rfl := hx.symm
  go_wp2_with fail
  go_ret
  exact ⟨rfl, rfl⟩
theorem isHead_3 {v : Value} {b : List Int} (hl : 240 ≤ b.length) (h0 : (b.getD 1 0 == 1) = true) (h1 : (b.getD 2 0 == 6) = true) (h2 : (getV (cutL b 236 240) true == 1669485411) = true) (w : World) (hb : Buf w v b) :
    Calls Try.prog 17 #[v] w fun e w' => e = .returned (.bool true) ∧ w' = w := by
  have HA := Lib.hid (dhLongAt_c 236 236 240 (by rfl) rfl hl w hb)
  obtain ⟨a, c, rfl, _, ha⟩ := hb.shape
  obtain ⟨bk, off, rfl, hat⟩ := ha (by rintro rfl; simp at hl)
  have x1 := hat 1 (by omega)
  have x2 := hat 2 (by omega)
  have l1 : (1 : Int) < (b.length : Int) := by omega
  have l2 : (2 : Int) < (b.length : Int) := by omega
  clear hat ha hb hl
  generalize getV (cutL b 236 240) true = z at *
  generalize b.getD 1 0 = y1 at *
  generalize b.getD 2 0 = y2 at *
  generalize b.length = n at *
  go_enter Try.func17, Try.ntmps17
  go_wp2_with fail
  refine HA.out.mono ?_
  rintro e wx ⟨rfl, hx⟩
  obtain rfl := hx.symm
  go_wp2_with fail
  go_ret
  exact ⟨rfl, rfl⟩
theorem isHead_c {v : Value} {b : List Int} (hl : 240 ≤ b.length) (w : World) (hb : Buf w v b) :
    Calls Try.prog 17 #[v] w fun e w' => e = .returned (.bool (ihD b)) ∧ w' = w := by
  unfold ihD
  cases h0 : (b.getD 1 0 == 1)
  · exact isHead_0 hl h0 w hb
  · cases h1 : (b.getD 2 0 == 6)
    · exact isHead_1 hl h0 h1 w hb
    · cases h2 : (getV (cutL b 236 240) true == 1669485411)
      · exact isHead_2 hl h0 h1 h2 w hb
      · exact isHead_3 hl h0 h1 h2 w hb
/-- The kinds as they lie in memory. -/
def kC : Array Value := #[.int .u8 53, .int .i64 1, .bool false, .int .u8 50, .int .i64 4, .bool false, .int .u8 54, .int .i64 4, .bool false, .int .u8 51, .int .i64 4, .bool false, .int .u8 1, .int .i64 4, .bool false, .int .u8 3, .int .i64 4, .bool true, .int .u8 6, .int .i64 4, .bool true]
theorem kC_at (i : Nat) (hi : i < 7) : kC[i * 3]? = some (.int .u8 (kN i)) ∧ kC[i * 3 + 1]? = some (.int .i64 (kS i : Nat)) ∧ kC[i * 3 + 2]? = some (.bool (kM i)) := by
  match i, hi with
  | 0, _ | 1, _ | 2, _ | 3, _ | 4, _ | 5, _ | 6, _ => exact ⟨rfl, rfl, rfl⟩
theorem kinds_c (w : World) : Calls Try.prog 35 #[] w fun e w' => ∃ g, e = .returned (.slice (some ⟨g, 0, none⟩) 7 7) ∧ Blk w' g kC 71 ∧ w.heap.size ≤ g ∧ Grew w w' := by
  go_enter Try.func35, Try.ntmps35
  go_wp2_with fail
  go_ret
  exact ⟨_, rfl, Blk.new _ _ _ _ rfl, Nat.le_refl _, (Grew.refl _).alloc _⟩
end Go.Proofs.Ytnmffkmpkgmkpaa
