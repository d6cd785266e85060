/-
  Package udp: small functions; a head's bytes, and the head that bytes begin with.
-/
import Derived.Test.YtcaafinjphionaaDoorUdN
import Derived.Test.YtcaafinjphionaaDoorPutB
import Derived.Test.YtcaafinjphionaaDoorCat
set_option maxRecDepth 4000
set_option linter.unusedVariables false
set_option linter.unusedSimpArgs false
namespace Go.Proofs.YtcaafinjphionaaDoor
open Go.RowKit

theorem isPort_c (n : Int) (b : Bool) (hb : portV n = b) (w : World) :
    Calls Tryd.prog 26 #[.int .i64 n] w fun e w' => e = .returned (.bool b) ∧ w' = w := by
  subst hb
  by_cases h1 : 0 ≤ n
  · cases h2 : decide (n ≤ 65535)
    · rw [show portV n = false by unfold portV; simp at h2; exact decide_eq_false (by omega)]
      go_enter Tryd.func26, Tryd.ntmps26
      go_wp2_with fail
      go_ret
      exact ⟨rfl, rfl⟩
    · rw [show portV n = true by unfold portV; simp at h2; exact decide_eq_true (by omega)]
      go_enter Tryd.func26, Tryd.ntmps26
      go_wp2_with fail
      go_ret
      exact ⟨rfl, rfl⟩
  · rw [show portV n = false by unfold portV; exact decide_eq_false (by omega)]
    go_enter Tryd.func26, Tryd.ntmps26
    go_wp2_with fail
    go_ret
    exact ⟨rfl, rfl⟩
theorem isDatagram_0 {f : UD} {p1 : Option Addr} {k1 : Nat}  (q0 : portV f.s = false) (w : World) :
    Calls Tryd.prog 13 #[.agg #[.int .i64 f.s, .int .i64 f.d, .slice p1 f.x.length k1]] w fun e w' => e = .returned (.bool false) ∧ Grew w w' := by
  go_enter Tryd.func13, Tryd.ntmps13
  go_upto_region 1 with fail
  have hB : Blk (w.alloc (.cells #[.int .i64 f.s, .int .i64 f.d, .slice p1 f.x.length k1] 24)) w.heap.size #[.int .i64 f.s, .int .i64 f.d, .slice p1 f.x.length k1] 24 := Blk.new _ _ _ _ rfl
  have g0 : Grew w (w.alloc (.cells #[.int .i64 f.s, .int .i64 f.d, .slice p1 f.x.length k1] 24)) := (Grew.refl _).alloc _
  generalize (w.alloc (.cells #[.int .i64 f.s, .int .i64 f.d, .slice p1 f.x.length k1] 24)) = w0 at *
  generalize hlB : w.heap.size = B at *
  have y0 := hB.cell 0
  have y1 := hB.cell 1
  have y2 := hB.cell 2
  go_wp2_with (first | (go_at_call 26; refine (isPort_c _ _ (by assumption) _).mono ?_; rintro e w2 ⟨rfl, h2⟩; obtain rfl := h2.symm))
  go_ret
  exact ⟨rfl, g0⟩
theorem isDatagram_1 {f : UD} {p1 : Option Addr} {k1 : Nat} (q0 : portV f.s = true) (q1 : portV f.d = false) (w : World) :
    Calls Tryd.prog 13 #[.agg #[.int .i64 f.s, .int .i64 f.d, .slice p1 f.x.length k1]] w fun e w' => e = .returned (.bool false) ∧ Grew w w' := by
  go_enter Tryd.func13, Tryd.ntmps13
  go_upto_region 1 with fail
  have hB : Blk (w.alloc (.cells #[.int .i64 f.s, .int .i64 f.d, .slice p1 f.x.length k1] 24)) w.heap.size #[.int .i64 f.s, .int .i64 f.d, .slice p1 f.x.length k1] 24 := Blk.new _ _ _ _ rfl
  have g0 : Grew w (w.alloc (.cells #[.int .i64 f.s, .int .i64 f.d, .slice p1 f.x.length k1] 24)) := (Grew.refl _).alloc _
  generalize (w.alloc (.cells #[.int .i64 f.s, .int .i64 f.d, .slice p1 f.x.length k1] 24)) = w0 at *
  generalize hlB : w.heap.size = B at *
  have y0 := hB.cell 0
  have y1 := hB.cell 1
  have y2 := hB.cell 2
  go_wp2_with (first | (go_at_call 26; refine (isPort_c _ _ (by assumption) _).mono ?_; rintro e w2 ⟨rfl, h2⟩; obtain rfl := h2.symm))
  go_ret
  exact ⟨rfl, g0⟩
theorem isDatagram_2 {f : UD} {p1 : Option Addr} {k1 : Nat} (q0 : portV f.s = true) (q1 : portV f.d = true) (q2 : decide ((f.x.length : Int) ≤ 65507) = false) (w : World) :
    Calls Tryd.prog 13 #[.agg #[.int .i64 f.s, .int .i64 f.d, .slice p1 f.x.length k1]] w fun e w' => e = .returned (.bool false) ∧ Grew w w' := by
  go_enter Tryd.func13, Tryd.ntmps13
  go_upto_region 1 with fail
  have hB : Blk (w.alloc (.cells #[.int .i64 f.s, .int .i64 f.d, .slice p1 f.x.length k1] 24)) w.heap.size #[.int .i64 f.s, .int .i64 f.d, .slice p1 f.x.length k1] 24 := Blk.new _ _ _ _ rfl
  have g0 : Grew w (w.alloc (.cells #[.int .i64 f.s, .int .i64 f.d, .slice p1 f.x.length k1] 24)) := (Grew.refl _).alloc _
  generalize (w.alloc (.cells #[.int .i64 f.s, .int .i64 f.d, .slice p1 f.x.length k1] 24)) = w0 at *
  generalize hlB : w.heap.size = B at *
  have y0 := hB.cell 0
  have y1 := hB.cell 1
  have y2 := hB.cell 2
  go_wp2_with (first | (go_at_call 26; refine (isPort_c _ _ (by assumption) _).mono ?_; rintro e w2 ⟨rfl, h2⟩; obtain rfl := h2.symm))
  go_ret
  exact ⟨rfl, g0⟩
theorem isDatagram_3 {f : UD} {p1 : Option Addr} {k1 : Nat} (q0 : portV f.s = true) (q1 : portV f.d = true) (q2 : decide ((f.x.length : Int) ≤ 65507) = true) (w : World) :
    Calls Tryd.prog 13 #[.agg #[.int .i64 f.s, .int .i64 f.d, .slice p1 f.x.length k1]] w fun e w' => e = .returned (.bool true) ∧ Grew w w' := by
  go_enter Tryd.func13, Tryd.ntmps13
  go_upto_region 1 with fail
  have hB : Blk (w.alloc (.cells #[.int .i64 f.s, .int .i64 f.d, .slice p1 f.x.length k1] 24)) w.heap.size #[.int .i64 f.s, .int .i64 f.d, .slice p1 f.x.length k1] 24 := Blk.new _ _ _ _ rfl
  have g0 : Grew w (w.alloc (.cells #[.int .i64 f.s, .int .i64 f.d, .slice p1 f.x.length k1] 24)) := (Grew.refl _).alloc _
  generalize (w.alloc (.cells #[.int .i64 f.s, .int .i64 f.d, .slice p1 f.x.length k1] 24)) = w0 at *
  generalize hlB : w.heap.size = B at *
  have y0 := hB.cell 0
  have y1 := hB.cell 1
  have y2 := hB.cell 2
  go_wp2_with (first | (go_at_call 26; refine (isPort_c _ _ (by assumption) _).mono ?_; rintro e w2 ⟨rfl, h2⟩; obtain rfl := h2.symm))
  go_ret
  exact ⟨rfl, g0⟩
theorem isDatagram_c {v : Value} {f : UD} {w : World} (hv : Ud w v f) :
    Calls Tryd.prog 13 #[v] w fun e w' => e = .returned (.bool (okU f)) ∧ Grew w w' := by
  obtain ⟨p1, k1, rfl, b1⟩ := hv.shape
  cases q0 : portV f.s
  · rw [show okU f = false by unfold okU; rw [q0]; rfl]; exact isDatagram_0 q0 w
  · cases q1 : portV f.d
    · rw [show okU f = false by unfold okU; rw [q0, q1]; rfl]; exact isDatagram_1 q0 q1 w
    · cases q2 : decide ((f.x.length : Int) ≤ 65507)
      · rw [show okU f = false by unfold okU; rw [q0, q1]; simp at q2; simp; omega]; exact isDatagram_2 q0 q1 q2 w
      · rw [show okU f = true by unfold okU; rw [q0, q1]; simp at q2; simp; omega]; exact isDatagram_3 q0 q1 q2 w
/-- A head, its bytes. -/
abbrev uheadV (x y z c : Int) : Value := .agg #[.int .i64 (x), .int .i64 (y), .int .i64 (z), .int .i64 (c)]
def uheadB (x y z c : Int) : List Int := putL x 2 true ++ putL y 2 true ++ putL z 2 true ++ putL c 2 true
theorem uheadB_len (x y z c : Int) : (uheadB x y z c).length = 8 := by simp [uheadB, putB_len]
theorem uheadB_ok (x y z c : Int) : AreBytes (uheadB x y z c) := (((putB_ok _ _ _).append (putB_ok _ _ _)).append (putB_ok _ _ _)).append (putB_ok _ _ _)
set_option maxHeartbeats 1000000 in
theorem headOfU_c {f : UD} {p1 : Option Addr} {k1 : Nat} (hl : f.x.length ≤ 140737488355328) (w : World) :
    Calls Tryd.prog 14 #[.agg #[.int .i64 f.s, .int .i64 f.d, .slice p1 f.x.length k1]] w fun e w' => e = .returned (uheadV f.s f.d (ulN f : Nat) 0) ∧ Grew w w' := by
  have eN : ((ulN f : Nat) : Int) = 8 + (f.x.length : Int) := by unfold ulN; omega
  rw [eN]
  clear eN
  go_enter Tryd.func14, Tryd.ntmps14
  go_upto_region 1 with fail
  have hB : Blk ((w.alloc (.cells #[.int .i64 f.s, .int .i64 f.d, .slice p1 f.x.length k1] 24)).alloc (.cells #[.int .i64 0, .int .i64 0, .int .i64 0, .int .i64 0] 43)) w.heap.size #[.int .i64 f.s, .int .i64 f.d, .slice p1 f.x.length k1] 24 := (Blk.new _ _ _ _ rfl).alloc _
  have hR : Blk ((w.alloc (.cells #[.int .i64 f.s, .int .i64 f.d, .slice p1 f.x.length k1] 24)).alloc (.cells #[.int .i64 0, .int .i64 0, .int .i64 0, .int .i64 0] 43)) (w.heap.size + 1) #[.int .i64 0, .int .i64 0, .int .i64 0, .int .i64 0] 43 := Blk.new _ _ _ _ (by simp)
  have g0 : Grew w ((w.alloc (.cells #[.int .i64 f.s, .int .i64 f.d, .slice p1 f.x.length k1] 24)).alloc (.cells #[.int .i64 0, .int .i64 0, .int .i64 0, .int .i64 0] 43)) := ((Grew.refl _).alloc _).alloc _
  generalize ((w.alloc (.cells #[.int .i64 f.s, .int .i64 f.d, .slice p1 f.x.length k1] 24)).alloc (.cells #[.int .i64 0, .int .i64 0, .int .i64 0, .int .i64 0] 43)) = w0 at *
  generalize hlR : w.heap.size + 1 = R at *
  generalize hlB : w.heap.size = B at *
  have y0 := hB.cell 0
  have y1 := hB.cell 1
  have y2 := hB.cell 2
  have x0 := hR.cell 0
  have q0 := hR.free 0
  have x1 := hR.cell 1
  have q1 := hR.free 1
  have x2 := hR.cell 2
  have q2 := hR.free 2
  have x3 := hR.cell 3
  have q3 := hR.free 3
  go_wp2_with fail
  have E := (((hR.set (o := 0) (.int .i64 f.s)).set (o := 1) (.int .i64 f.d)).set (o := 2) (.int .i64 (8 + (f.x.length : Int)))).set (o := 3) (.int .i64 0)
  have GE := (((g0.setCell (b := R) (o := 0) (by omega) (.int .i64 f.s)).setCell (b := R) (o := 1) (by omega) (.int .i64 f.d)).setCell (b := R) (o := 2) (by omega) (.int .i64 (8 + (f.x.length : Int)))).setCell (b := R) (o := 3) (by omega) (.int .i64 0)
  have z0 := E.cell 0
  have z1 := E.cell 1
  have z2 := E.cell 2
  have z3 := E.cell 3
  exact bodyPost_ret (v := uheadV f.s f.d (8 + (f.x.length : Int)) 0) (by simp [results, Tryd.results14, go_sem, z0, z1, z2, z3]) rfl ⟨rfl, GE⟩
set_option maxHeartbeats 4000000 in
theorem bytesU_c (x y z c : Int) (hx : 0 ≤ x ∧ x ≤ 9223372036854775807) (hy : 0 ≤ y ∧ y ≤ 9223372036854775807) (hz : 0 ≤ z ∧ z ≤ 9223372036854775807) (hc : 0 ≤ c ∧ c ≤ 9223372036854775807) (w : World) :
    Calls Tryd.prog 17 #[uheadV x y z c] w fun e w' => ∃ u, e = .returned u ∧ Buf w' u (uheadB x y z c) ∧ Grew w w' := by
  have hi0 : ∀ w', (Instr.index 43 (.agg #[.int .i64 x, .int .i64 y, .int .i64 z, .int .i64 c]) (.int .i64 0)).run Tryd.prog w' = .ok (.int .i64 x) w' := fun _ => by kernel_rfl
  have hi1 : ∀ w', (Instr.index 43 (.agg #[.int .i64 x, .int .i64 y, .int .i64 z, .int .i64 c]) (.int .i64 1)).run Tryd.prog w' = .ok (.int .i64 y) w' := fun _ => by kernel_rfl
  have hi2 : ∀ w', (Instr.index 43 (.agg #[.int .i64 x, .int .i64 y, .int .i64 z, .int .i64 c]) (.int .i64 2)).run Tryd.prog w' = .ok (.int .i64 z) w' := fun _ => by kernel_rfl
  have hi3 : ∀ w', (Instr.index 43 (.agg #[.int .i64 x, .int .i64 y, .int .i64 z, .int .i64 c]) (.int .i64 3)).run Tryd.prog w' = .ok (.int .i64 c) w' := fun _ => by kernel_rfl
  go_enter Tryd.func17, Tryd.ntmps17
  go_upto_region 1 with fail
  have hB : Blk (w.alloc (.cells #[.int .i64 x, .int .i64 y, .int .i64 z, .int .i64 c] 43)) w.heap.size #[.int .i64 x, .int .i64 y, .int .i64 z, .int .i64 c] 43 := Blk.new _ _ _ _ rfl
  have g0 : Grew w (w.alloc (.cells #[.int .i64 x, .int .i64 y, .int .i64 z, .int .i64 c] 43)) := (Grew.refl _).alloc _
  generalize (w.alloc (.cells #[.int .i64 x, .int .i64 y, .int .i64 z, .int .i64 c] 43)) = w0 at *
  generalize hlB : w.heap.size = B at *
  have y0 := hB.cell 0
  have y1 := hB.cell 1
  have y2 := hB.cell 2
  have y3 := hB.cell 3
  go_wp2_with fail
  refine wp_loop_rounds 5 ?_
  rw [rounds_succ]
  go_wp2_with fail
  refine (putB_c x _ 2 true (by rfl) (by omega) (by omega) (by omega) _).mono ?_
  rintro e u0w ⟨u0, rfl, hr0, hb0, gp0⟩
  have GP0 := g0.trans gp0
  have HR0 := Lib.hid ((Row.nil w0 w.heap.size).grew gp0)
  have HB0 := Lib.hid hb0
  clear hr0 hb0 gp0
  go_wp2_with (refine wpList_append_b (W := w) rfl (.tmp 10) (.tmp 13) rfl GP0 HR0.out HB0.out (by rfl) (by rfl) (by simp [putB_len]) ?_; intro v0 a0w HA0 ga0 xx0; clear xx0 HR0 HB0 GP0)
  rw [rounds_succ]
  go_wp2_with fail
  refine (putB_c y _ 2 true (by rfl) (by omega) (by omega) (by omega) _).mono ?_
  rintro e u1w ⟨u1, rfl, hr1, hb1, gp1⟩
  have GP1 := ga0.trans gp1
  have HR1 := Lib.hid (HA0.out.grew gp1)
  have HB1 := Lib.hid hb1
  clear hr1 hb1 gp1
  go_wp2_with (refine wpList_append_b (W := w) rfl (.tmp 10) (.tmp 13) rfl GP1 HR1.out HB1.out (by rfl) (by rfl) (by simp [putB_len]) ?_; intro v1 a1w HA1 ga1 xx1; clear xx1 HR1 HB1 GP1)
  rw [rounds_succ]
  go_wp2_with fail
  refine (putB_c z _ 2 true (by rfl) (by omega) (by omega) (by omega) _).mono ?_
  rintro e u2w ⟨u2, rfl, hr2, hb2, gp2⟩
  have GP2 := ga1.trans gp2
  have HR2 := Lib.hid (HA1.out.grew gp2)
  have HB2 := Lib.hid hb2
  clear hr2 hb2 gp2
  go_wp2_with (refine wpList_append_b (W := w) rfl (.tmp 10) (.tmp 13) rfl GP2 HR2.out HB2.out (by rfl) (by rfl) (by simp [putB_len]) ?_; intro v2 a2w HA2 ga2 xx2; clear xx2 HR2 HB2 GP2)
  rw [rounds_succ]
  go_wp2_with fail
  refine (putB_c c _ 2 true (by rfl) (by omega) (by omega) (by omega) _).mono ?_
  rintro e u3w ⟨u3, rfl, hr3, hb3, gp3⟩
  have GP3 := ga2.trans gp3
  have HR3 := Lib.hid (HA2.out.grew gp3)
  have HB3 := Lib.hid hb3
  clear hr3 hb3 gp3
  go_wp2_with (refine wpList_append_b (W := w) rfl (.tmp 10) (.tmp 13) rfl GP3 HR3.out HB3.out (by rfl) (by rfl) (by simp [putB_len]) ?_; intro v3 a3w HA3 ga3 xx3; clear xx3 HR3 HB3 GP3)
  rw [rounds_succ]
  go_wp2_with fail
  go_ret
  have hq := HA3.out
  rw [List.nil_append] at hq
  exact ⟨_, rfl, hq.buf (uheadB_ok x y z c), ga3⟩
set_option maxHeartbeats 4000000 in
theorem headAt_c {v : Value} {xs : List Int} (h8 : 8 ≤ xs.length) {w : World} (hb : Buf w v xs) :
    Calls Tryd.prog 33 #[v] w fun e w' => e = .returned (uheadV (getV (cutL xs 0 2) true) (getV (cutL xs 2 4) true) (getV (cutL xs 4 6) true) (getV (cutL xs 6 8) true)) ∧ Grew w w' := by
  have hlen := hb.len
  obtain ⟨a, c, rfl, _, _⟩ := hb.shape
  obtain ⟨a0, c0, H0, x1, hrun0, x3, x4⟩ := hb.run_cut (lo := 0) (hi := 2) (by omega) (by omega)
  have r0 : ∀ w', (Instr.sliceAt 22 (.slice a xs.length c) (some (.int .i64 0)) (some (.int .i64 2)) none).run Tryd.prog w' = .ok (.slice a0 2 c0) w' := hrun0 .i64 .i64
  clear x1 x3 x4 hrun0
  have hl0 : (cutL xs 0 2).length = 2 := by rw [cutL_length (by omega) (by omega)]
  have hg0 := getG_lt H0.ok true hl0 (by omega)
  have HG0 := Lib.hid (fun w' (g : Grew w w') => get_c true (H0.grew g).ok (by omega) w' (H0.grew g).bytes)
  have ew0 : Hid (IntKind.i64.wrap (getV (cutL xs 0 2) true) = getV (cutL xs 0 2) true) := Lib.hid (IntWalk.i64_in _ (by omega))
  clear H0 hl0 hg0
  obtain ⟨a1, c1, H1, x1, hrun1, x3, x4⟩ := hb.run_cut (lo := 2) (hi := 4) (by omega) (by omega)
  have r1 : ∀ w', (Instr.sliceAt 22 (.slice a xs.length c) (some (.int .i64 2)) (some (.int .i64 4)) none).run Tryd.prog w' = .ok (.slice a1 2 c1) w' := hrun1 .i64 .i64
  clear x1 x3 x4 hrun1
  have hl1 : (cutL xs 2 4).length = 2 := by rw [cutL_length (by omega) (by omega)]
  have hg1 := getG_lt H1.ok true hl1 (by omega)
  have HG1 := Lib.hid (fun w' (g : Grew w w') => get_c true (H1.grew g).ok (by omega) w' (H1.grew g).bytes)
  have ew1 : Hid (IntKind.i64.wrap (getV (cutL xs 2 4) true) = getV (cutL xs 2 4) true) := Lib.hid (IntWalk.i64_in _ (by omega))
  clear H1 hl1 hg1
  obtain ⟨a2, c2, H2, x1, hrun2, x3, x4⟩ := hb.run_cut (lo := 4) (hi := 6) (by omega) (by omega)
  have r2 : ∀ w', (Instr.sliceAt 22 (.slice a xs.length c) (some (.int .i64 4)) (some (.int .i64 6)) none).run Tryd.prog w' = .ok (.slice a2 2 c2) w' := hrun2 .i64 .i64
  clear x1 x3 x4 hrun2
  have hl2 : (cutL xs 4 6).length = 2 := by rw [cutL_length (by omega) (by omega)]
  have hg2 := getG_lt H2.ok true hl2 (by omega)
  have HG2 := Lib.hid (fun w' (g : Grew w w') => get_c true (H2.grew g).ok (by omega) w' (H2.grew g).bytes)
  have ew2 : Hid (IntKind.i64.wrap (getV (cutL xs 4 6) true) = getV (cutL xs 4 6) true) := Lib.hid (IntWalk.i64_in _ (by omega))
  clear H2 hl2 hg2
  obtain ⟨a3, c3, H3, x1, hrun3, x3, x4⟩ := hb.run_cut (lo := 6) (hi := 8) (by omega) (by omega)
  have r3 : ∀ w', (Instr.sliceAt 22 (.slice a xs.length c) (some (.int .i64 6)) (some (.int .i64 8)) none).run Tryd.prog w' = .ok (.slice a3 2 c3) w' := hrun3 .i64 .i64
  clear x1 x3 x4 hrun3
  have hl3 : (cutL xs 6 8).length = 2 := by rw [cutL_length (by omega) (by omega)]
  have hg3 := getG_lt H3.ok true hl3 (by omega)
  have HG3 := Lib.hid (fun w' (g : Grew w w') => get_c true (H3.grew g).ok (by omega) w' (H3.grew g).bytes)
  have ew3 : Hid (IntKind.i64.wrap (getV (cutL xs 6 8) true) = getV (cutL xs 6 8) true) := Lib.hid (IntWalk.i64_in _ (by omega))
  clear H3 hl3 hg3
  clear hb hlen h8
  generalize xs.length = n at *
  generalize getV (cutL xs 0 2) true = z0 at *
  generalize getV (cutL xs 2 4) true = z1 at *
  generalize getV (cutL xs 4 6) true = z2 at *
  generalize getV (cutL xs 6 8) true = z3 at *
  go_enter Tryd.func33, Tryd.ntmps33
  go_upto_region 1 with fail
  have hR : Blk (w.alloc (.cells #[.int .i64 0, .int .i64 0, .int .i64 0, .int .i64 0] 43)) w.heap.size #[.int .i64 0, .int .i64 0, .int .i64 0, .int .i64 0] 43 := Blk.new _ _ _ _ rfl
  have g0 : Grew w (w.alloc (.cells #[.int .i64 0, .int .i64 0, .int .i64 0, .int .i64 0] 43)) := (Grew.refl _).alloc _
  generalize (w.alloc (.cells #[.int .i64 0, .int .i64 0, .int .i64 0, .int .i64 0] 43)) = w0 at *
  generalize hlR : w.heap.size = R at *
  go_upto_region 2 with fail
  have hC : Blk (w0.alloc (.cells #[.int .i64 0, .int .i64 0, .int .i64 0, .int .i64 0] 43)) w0.heap.size #[.int .i64 0, .int .i64 0, .int .i64 0, .int .i64 0] 43 := Blk.new _ _ _ _ rfl
  have gc : Grew w0 (w0.alloc (.cells #[.int .i64 0, .int .i64 0, .int .i64 0, .int .i64 0] 43)) := (Grew.refl _).alloc _
  generalize (w0.alloc (.cells #[.int .i64 0, .int .i64 0, .int .i64 0, .int .i64 0] 43)) = w1 at *
  generalize hlC : w0.heap.size = C at *
  have hR1 := hR.grew gc
  have hRC : R < C := by have := hR.lt; omega
  have hCR : C ≠ R := by omega
  have G := g0.trans gc
  clear hR g0 gc
  go_wp2_with fail
  refine wp_loop_rounds 5 ?_
  rw [rounds_succ]
  go_wp2_with fail
  refine (HG0.out _ G).mono ?_
  rintro e wx ⟨rfl, h9⟩
  obtain rfl := h9.symm
  have x0 := hC.cell 0
  have q0 := hC.free 0
  have ew := ew0.out
  go_upto_region 6 with fail
  have hC0 := hC.set (o := 0) (.int .i64 z0)
  have hRR0 := hR1.other (c := C) (o := 0) hCR.symm (.int .i64 z0)
  have G0 := G.setCell (b := C) (o := 0) (by omega) (.int .i64 z0)
  clear x0 q0 ew hC hR1 G
  generalize (w1.setCell ⟨C, 0, none⟩ (.int .i64 z0)) = s0 at *
  go_wp2_with fail
  rw [rounds_succ]
  go_wp2_with fail
  refine (HG1.out _ G0).mono ?_
  rintro e wx ⟨rfl, h9⟩
  obtain rfl := h9.symm
  have x1 := hC0.cell 1
  have q1 := hC0.free 1
  have ew := ew1.out
  go_upto_region 6 with fail
  have hC1 := hC0.set (o := 1) (.int .i64 z1)
  have hRR1 := hRR0.other (c := C) (o := 1) hCR.symm (.int .i64 z1)
  have G1 := G0.setCell (b := C) (o := 1) (by omega) (.int .i64 z1)
  clear x1 q1 ew hC0 hRR0 G0
  generalize (s0.setCell ⟨C, 1, none⟩ (.int .i64 z1)) = s1 at *
  go_wp2_with fail
  rw [rounds_succ]
  go_wp2_with fail
  refine (HG2.out _ G1).mono ?_
  rintro e wx ⟨rfl, h9⟩
  obtain rfl := h9.symm
  have x2 := hC1.cell 2
  have q2 := hC1.free 2
  have ew := ew2.out
  go_upto_region 6 with fail
  have hC2 := hC1.set (o := 2) (.int .i64 z2)
  have hRR2 := hRR1.other (c := C) (o := 2) hCR.symm (.int .i64 z2)
  have G2 := G1.setCell (b := C) (o := 2) (by omega) (.int .i64 z2)
  clear x2 q2 ew hC1 hRR1 G1
  generalize (s1.setCell ⟨C, 2, none⟩ (.int .i64 z2)) = s2 at *
  go_wp2_with fail
  rw [rounds_succ]
  go_wp2_with fail
  refine (HG3.out _ G2).mono ?_
  rintro e wx ⟨rfl, h9⟩
  obtain rfl := h9.symm
  have x3 := hC2.cell 3
  have q3 := hC2.free 3
  have ew := ew3.out
  go_upto_region 6 with fail
  have hC3 := hC2.set (o := 3) (.int .i64 z3)
  have hRR3 := hRR2.other (c := C) (o := 3) hCR.symm (.int .i64 z3)
  have G3 := G2.setCell (b := C) (o := 3) (by omega) (.int .i64 z3)
  clear x3 q3 ew hC2 hRR2 G2
  generalize (s2.setCell ⟨C, 3, none⟩ (.int .i64 z3)) = s3 at *
  go_wp2_with fail
  rw [rounds_succ]
  have y0 := hC3.cell 0
  have x0 := hRR3.cell 0
  have q0 := hRR3.free 0
  have y1 := hC3.cell 1
  have x1 := hRR3.cell 1
  have q1 := hRR3.free 1
  have y2 := hC3.cell 2
  have x2 := hRR3.cell 2
  have q2 := hRR3.free 2
  have y3 := hC3.cell 3
  have x3 := hRR3.cell 3
  have q3 := hRR3.free 3
  go_wp2_with fail
  have E := ((((hRR3.set (o := 0) (.int .i64 z0)).set (o := 1) (.int .i64 z1)).set (o := 2) (.int .i64 z2)).set (o := 3) (.int .i64 z3))
  have GE := ((((G3.setCell (b := R) (o := 0) (by omega) (.int .i64 z0)).setCell (b := R) (o := 1) (by omega) (.int .i64 z1)).setCell (b := R) (o := 2) (by omega) (.int .i64 z2)).setCell (b := R) (o := 3) (by omega) (.int .i64 z3))
  have u0 := E.cell 0
  have u1 := E.cell 1
  have u2 := E.cell 2
  have u3 := E.cell 3
  exact bodyPost_ret (v := uheadV z0 z1 z2 z3) (by simp [results, Tryd.results33, go_sem, u0, u1, u2, u3]) rfl ⟨rfl, GE⟩
end Go.Proofs.YtcaafinjphionaaDoor
