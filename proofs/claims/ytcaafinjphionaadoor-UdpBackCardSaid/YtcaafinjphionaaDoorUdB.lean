/-
  Package udp: what a checksum is reckoned of, and Put, of all datagrams.
-/
import Derived.Test.YtcaafinjphionaaDoorUdA
import Derived.Test.YtcaafinjphionaaDoorUdP
set_option maxRecDepth 4000
set_option linter.unusedVariables false
set_option linter.unusedSimpArgs false
namespace Go.Proofs.YtcaafinjphionaaDoor
open Go.RowKit

set_option maxHeartbeats 1000000 in
theorem covered_c {v : Value} {xs : List Int} (src dst : Int) (hsr : 0 ≤ src ∧ src < 4294967296) (hdr : 0 ≤ dst ∧ dst < 4294967296) (hl : xs.length ≤ 140737488355000) {w : World} (hb : Buf w v xs) :
    Calls Tryd.prog 28 #[v, .int .u32 src, .int .u32 dst] w fun e w' => ∃ u, e = .returned u ∧ Buf w' u (psU src dst xs.length ++ xs) ∧ Grew w w' := by
  have HB := Lib.hid hb
  have HLN := Lib.hid (show [psU src dst xs.length, xs].flatten.length ≤ 140737488355328 by simp [psU_len]; omega)
  have HFL := Lib.hid (show [psU src dst xs.length, xs].flatten = psU src dst xs.length ++ xs by simp)
  obtain ⟨a, c, rfl, _, _⟩ := hb.shape
  clear hb
  generalize xs.length = n at *
  go_enter Tryd.func28, Tryd.ntmps28
  go_wp2_with fail
  refine (pseudo_c src dst 17 (n : Nat) hsr hdr (by omega) (by omega) w).mono ?_
  rintro e w1 ⟨u, rfl, hr, hp, g1⟩
  replace hp : Buf w1 u (psU src dst n) := hp
  obtain ⟨pu, cu, rfl, _, _⟩ := hp.shape
  have HP := Lib.hid hp
  clear hr hp
  rw [psU_len] at HP ⊢
  have HL := Lib.hid (Bufs.ofBlk (Blk.new w1 #[.slice pu 12 cu, .slice a n c] 22 _ rfl) [psU src dst n, xs] 2 2 rfl (by unfold maxLen; simp) (fun i hi => by
    match i, hi with
    | 0, _ => exact ⟨_, rfl, HP.out.grew ((Grew.refl w1).alloc _)⟩
    | 1, _ => exact ⟨_, rfl, HB.out.grew (g1.alloc _)⟩))
  have gA : Grew w (w1.alloc (.cells #[.slice pu 12 cu, .slice a n c] 22)) := g1.alloc _
  go_wp2_with (go_at_call 16; refine (concat_b _ HL.out HLN.out).mono ?_; rintro e w9 ⟨u9, rfl, hrow, HC, g9⟩; rw [HFL.out] at HC; have HC9 := Lib.hid HC; clear HC hrow)
  go_ret
  exact ⟨_, rfl, HC9.out, gA.trans g9⟩
theorem checksumOf_c {v : Value} {xs : List Int} (src dst : Int) (hsr : 0 ≤ src ∧ src < 4294967296) (hdr : 0 ≤ dst ∧ dst < 4294967296) (hl : xs.length ≤ 140737488355000) {w : World} (hb : Buf w v xs) :
    Calls Tryd.prog 15 #[v, .int .u32 src, .int .u32 dst] w fun e w' => e = .returned (.int .i64 (if sumV (psU src dst xs.length ++ xs) = 0 then 65535 else sumV (psU src dst xs.length ++ xs))) ∧ Grew w w' := by
  have hlt := sumV_lt (psU src dst xs.length ++ xs)
  have HC := Lib.hid (covered_c src dst hsr hdr hl hb)
  have HL := Lib.hid (show (psU src dst xs.length ++ xs).length ≤ 140737488355328 by simp [psU_len]; omega)
  clear hb hl
  cases hz : (sumV (psU src dst xs.length ++ xs) == 0)
  · have hz' : ¬ sumV (psU src dst xs.length ++ xs) = 0 := by simpa using hz
    rw [if_neg hz']
    generalize psU src dst xs.length ++ xs = ys at *
    go_enter Tryd.func15, Tryd.ntmps15
    go_wp2_with fail
    refine HC.out.mono ?_
    rintro e w1 ⟨u, rfl, hb1, g1⟩
    go_wp2_with fail
    refine (sum_c w1 hb1 HL.out).mono ?_
    rintro e w2 ⟨rfl, g2⟩
    go_wp2_with fail
    go_ret
    exact ⟨rfl, g1.trans g2⟩
  · have hz' : sumV (psU src dst xs.length ++ xs) = 0 := by simpa using hz
    rw [if_pos hz']
    clear hz
    generalize psU src dst xs.length ++ xs = ys at *
    go_enter Tryd.func15, Tryd.ntmps15
    go_wp2_with fail
    refine HC.out.mono ?_
    rintro e w1 ⟨u, rfl, hb1, g1⟩
    go_wp2_with fail
    refine (sum_c w1 hb1 HL.out).mono ?_
    rw [hz']
    rintro e w2 ⟨rfl, g2⟩
    go_wp2_with fail
    go_ret
    exact ⟨rfl, g1.trans g2⟩
theorem putU_flat (f : UD) (src dst : Int) : uheadB f.s f.d (ulN f : Nat) (ckU f src dst) ++ f.x = putU f src dst := by
  have hc := ckU_lt f src dst
  unfold putU rawU uheadB putTwo lay
  have e : (putL f.s 2 true ++ putL f.d 2 true ++ putL (ulN f : Nat) 2 true).length = 6 := by simp [putB_len]
  rw [put_two (ckU f src dst) hc.1 hc.2]
  generalize putL f.s 2 true ++ putL f.d 2 true ++ putL (ulN f : Nat) 2 true = p at *
  simp [e]
  rw [show p ++ 0 :: 0 :: f.x = (p ++ [0, 0]) ++ f.x by simp, List.drop_left' (by simp [e])]
theorem rawU_flat (f : UD) : uheadB f.s f.d (ulN f : Nat) 0 ++ f.x = rawU f := by
  have e0 : putL 0 2 true = [0, 0] := by decide
  unfold rawU uheadB
  rw [e0]
theorem put_no {f : UD} {p1 : Option Addr} {k1 : Nat} (src dst : Int) (hok : okU f = false) {w : World} (hv : Ud w (.agg #[.int .i64 f.s, .int .i64 f.d, .slice p1 f.x.length k1]) f) :
    Calls Tryd.prog 7 #[.agg #[.int .i64 f.s, .int .i64 f.d, .slice p1 f.x.length k1], .int .u32 src, .int .u32 dst] w fun e w' => e = .returned (.tuple #[.slice none 0 0, .int .i64 2]) ∧ Grew w w' := by
  have HV := Lib.hid hv
  have HOK := Lib.hid hok
  clear hv hok
  go_enter Tryd.func7, Tryd.ntmps7
  go_upto_region 1 with fail
  have hB : Blk (w.alloc (.cells #[.int .i64 f.s, .int .i64 f.d, .slice p1 f.x.length k1] 24)) w.heap.size #[.int .i64 f.s, .int .i64 f.d, .slice p1 f.x.length k1] 24 := Blk.new _ _ _ _ rfl
  have g0 : Grew w (w.alloc (.cells #[.int .i64 f.s, .int .i64 f.d, .slice p1 f.x.length k1] 24)) := (Grew.refl _).alloc _
  generalize (w.alloc (.cells #[.int .i64 f.s, .int .i64 f.d, .slice p1 f.x.length k1] 24)) = w0 at *
  generalize hlB : w.heap.size = B at *
  have y0 := hB.cell 0
  have y1 := hB.cell 1
  have y2 := hB.cell 2
  go_wp2_with fail
  refine (isDatagram_c (HV.out.grew g0)).mono ?_
  rintro e w1 ⟨rfl, g1⟩
  rw [HOK.out]
  go_wp2_with fail
  go_ret2
  exact ⟨rfl, g0.trans g1⟩
/-- What the operations of a region give. -/
def rgUp (W : World) (B H : Nat) (f : UD) (src dst : Int) (p1 : Option Addr) (k1 : Nat) : (Nat → Value) → Nat → Value → World → Prop
  | _, 0, v, _ => v = .agg #[.int .i64 f.s, .int .i64 f.d, .int .i64 (ulN f : Nat), .int .i64 0]
  | _, 1, v, w => ∃ a c, v = .slice a 8 c ∧ Buf w (.slice a 8 c) (uheadB f.s f.d (ulN f : Nat) 0)
  | _, 2, v, _ => v = .pointer (some ⟨B, 2, none⟩)
  | _, 3, v, _ => v = .slice p1 f.x.length k1
  | _, 4, v, w => ∃ b0, v = .slice (some ⟨b0, 0, none⟩) 2 2 ∧ Bufs w (.slice (some ⟨b0, 0, none⟩) 2 2) [uheadB f.s f.d (ulN f : Nat) 0, f.x]
  | _, 5, v, w => ∃ a c, v = .slice a (rawU f).length c ∧ Buf w (.slice a (rawU f).length c) (rawU f)
  | _, 6, v, _ => v = .int .u32 src
  | _, 7, v, _ => v = .int .u32 dst
  | _, 8, v, _ => v = .int .i64 (ckU f src dst)
  | _, 9, v, _ => v = .pointer (some ⟨H, 3, none⟩)
  | _, _, _, _ => True
theorem rgUp_grew {W : World} {B H : Nat} {f : UD} {src dst : Int} {p1 : Option Addr} {k1 : Nat} : ∀ vs j v w w', Grew w w' → rgUp W B H f src dst p1 k1 vs j v w → rgUp W B H f src dst p1 k1 vs j v w'
  | _, 0, _, _, _, _, h => h
  | _, 1, _, _, _, g, ⟨b0, b1, e, h0⟩ => ⟨b0, b1, e, h0.grew g⟩
  | _, 2, _, _, _, _, h => h
  | _, 3, _, _, _, _, h => h
  | _, 4, _, _, _, g, ⟨b0, e, h0⟩ => ⟨b0, e, h0.grew g⟩
  | _, 5, _, _, _, g, ⟨b0, b1, e, h0⟩ => ⟨b0, b1, e, h0.grew g⟩
  | _, 6, _, _, _, _, h => h
  | _, 7, _, _, _, _, h => h
  | _, 8, _, _, _, _, h => h
  | _, 9, _, _, _, _, h => h
  | _, _ + 10, _, _, _, _, _ => True.intro
theorem rgUp_lt {W : World} {B H : Nat} {f : UD} {src dst : Int} {p1 : Option Addr} {k1 : Nat} : ∀ vs j v w, ([] : List Nat).contains j = true → rgUp W B H f src dst p1 k1 vs j v w → ∀ g, leadsTo v = some g → g < w.heap.size
  | _, 0, _, _, hc, _ => by simp at hc
  | _, 1, _, _, hc, _ => by simp at hc
  | _, 2, _, _, hc, _ => by simp at hc
  | _, 3, _, _, hc, _ => by simp at hc
  | _, 4, _, _, hc, _ => by simp at hc
  | _, 5, _, _, hc, _ => by simp at hc
  | _, 6, _, _, hc, _ => by simp at hc
  | _, 7, _, _, hc, _ => by simp at hc
  | _, 8, _, _, hc, _ => by simp at hc
  | _, 9, _, _, hc, _ => by simp at hc
  | _, _ + 10, _, _, hc, _ => by simp at hc
theorem rgUp_loc {W : World} {B H : Nat} {f : UD} {src dst : Int} {p1 : Option Addr} {k1 : Nat} : ∀ (vs vs' : Nat → Value) j v w, (∀ k ∈ ([[], [], [], [], [], [], [], [], [], []] : List (List Nat)).getD j [], vs k = vs' k) → rgUp W B H f src dst p1 k1 vs j v w → rgUp W B H f src dst p1 k1 vs' j v w
  | _, _, 0, _, _, _, h => h
  | _, _, 1, _, _, _, h => h
  | _, _, 2, _, _, _, h => h
  | _, _, 3, _, _, _, h => h
  | _, _, 4, _, _, _, h => h
  | _, _, 5, _, _, _, h => h
  | _, _, 6, _, _, _, h => h
  | _, _, 7, _, _, _, h => h
  | _, _, 8, _, _, _, h => h
  | _, _, 9, _, _, _, h => h
  | _, _, _ + 10, _, _, _, _ => True.intro
set_option maxHeartbeats 4000000 in
theorem put_yes {f : UD} {p1 : Option Addr} {k1 : Nat} (src dst : Int) (hsr : 0 ≤ src ∧ src < 4294967296) (hdr : 0 ≤ dst ∧ dst < 4294967296) (hok : okU f = true) {w : World} (hv : Ud w (.agg #[.int .i64 f.s, .int .i64 f.d, .slice p1 f.x.length k1]) f) (hb1 : Buf w (.slice p1 f.x.length k1) f.x) :
    Calls Tryd.prog 7 #[.agg #[.int .i64 f.s, .int .i64 f.d, .slice p1 f.x.length k1], .int .u32 src, .int .u32 dst] w fun e w' => ∃ u, e = .returned (.tuple #[u, .int .i64 0]) ∧ Buf w' u (putU f src dst) ∧ Grew w w' := by
  have hk := okU_spec hok
  have hc := ckU_lt f src dst
  have hul : ((ulN f : Nat) : Int) = 8 + f.x.length := by unfold ulN; omega
  have HS := Lib.hid (show 0 ≤ f.s ∧ f.s ≤ 9223372036854775807 by omega)
  have HDD := Lib.hid (show 0 ≤ f.d ∧ f.d ≤ 9223372036854775807 by omega)
  have HU := Lib.hid (show 0 ≤ ((ulN f : Nat) : Int) ∧ ((ulN f : Nat) : Int) ≤ 9223372036854775807 by omega)
  have HK0 := Lib.hid (show (0 : Int) ≤ 0 ∧ (0 : Int) ≤ 9223372036854775807 by omega)
  have HK := Lib.hid (show 0 ≤ ckU f src dst ∧ ckU f src dst ≤ 9223372036854775807 by omega)
  have HFL := Lib.hid (show [uheadB f.s f.d (ulN f : Nat) 0, f.x].flatten = rawU f by rw [← rawU_flat]; simp)
  have HLN := Lib.hid (show [uheadB f.s f.d (ulN f : Nat) 0, f.x].flatten.length ≤ 140737488355328 by simp only [List.flatten_cons, List.flatten_nil, List.append_nil, List.length_append, uheadB_len]; omega)
  have HFL2 := Lib.hid (show [uheadB f.s f.d (ulN f : Nat) (ckU f src dst), f.x].flatten = putU f src dst by rw [← putU_flat]; simp)
  have HLN2 := Lib.hid (show [uheadB f.s f.d (ulN f : Nat) (ckU f src dst), f.x].flatten.length ≤ 140737488355328 by simp only [List.flatten_cons, List.flatten_nil, List.append_nil, List.length_append, uheadB_len]; omega)
  have HCS : Hid (∀ (w' : World) (v : Value), Buf w' v (rawU f) → Calls Tryd.prog 15 #[v, .int .u32 src, .int .u32 dst] w' fun e w'' => e = .returned (.int .i64 (ckU f src dst)) ∧ Grew w' w'') := Lib.hid (fun w' v h => by
    have := checksumOf_c src dst hsr hdr (by rw [rawU_len]; omega) h
    rw [rawU_len] at this
    exact this)
  have HLX := Lib.hid (show f.x.length ≤ 140737488355328 by omega)
  have HV := Lib.hid hv
  have HOK := Lib.hid hok
  have HX0 := Lib.hid hb1
  clear hv hok hb1 hk hc hul
  go_enter Tryd.func7, Tryd.ntmps7
  go_upto_region 1 with fail
  have hB : Blk (w.alloc (.cells #[.int .i64 f.s, .int .i64 f.d, .slice p1 f.x.length k1] 24)) w.heap.size #[.int .i64 f.s, .int .i64 f.d, .slice p1 f.x.length k1] 24 := Blk.new _ _ _ _ rfl
  have g0 : Grew w (w.alloc (.cells #[.int .i64 f.s, .int .i64 f.d, .slice p1 f.x.length k1] 24)) := (Grew.refl _).alloc _
  generalize (w.alloc (.cells #[.int .i64 f.s, .int .i64 f.d, .slice p1 f.x.length k1] 24)) = w0 at *
  generalize hlB : w.heap.size = B at *
  have y0 := hB.cell 0
  have y1 := hB.cell 1
  have y2 := hB.cell 2
  go_wp2_with fail
  refine (isDatagram_c (HV.out.grew g0)).mono ?_
  rintro e w1 ⟨rfl, g1⟩
  rw [HOK.out]
  have G1 := g0.trans g1
  have hB1 := hB.grew g1
  clear y0 y1 y2 hB g0 g1 HV HOK
  have y0 := hB1.cell 0
  have y1 := hB1.cell 1
  have y2 := hB1.cell 2
  go_wp2_with fail
  refine (headOfU_c HLX.out w1).mono ?_
  rintro e w2 ⟨rfl, g2⟩
  have G2 := G1.trans g2
  have hB2 := hB1.grew g2
  clear y0 y1 y2 hB1 G1 g2 HLX
  go_upto_region 4 with fail
  have hH : Blk (w2.alloc (.cells #[.int .i64 f.s, .int .i64 f.d, .int .i64 (ulN f : Nat), .int .i64 0] 43)) w2.heap.size #[.int .i64 f.s, .int .i64 f.d, .int .i64 (ulN f : Nat), .int .i64 0] 43 := Blk.new _ _ _ _ rfl
  have gh : Grew w2 (w2.alloc (.cells #[.int .i64 f.s, .int .i64 f.d, .int .i64 (ulN f : Nat), .int .i64 0] 43)) := (Grew.refl _).alloc _
  generalize (w2.alloc (.cells #[.int .i64 f.s, .int .i64 f.d, .int .i64 (ulN f : Nat), .int .i64 0] 43)) = w2b at *
  generalize hlH : w2.heap.size = H at *
  have hB2b := hB2.grew gh
  have hBH : B ≠ H := by have := hB2.lt; omega
  have G2b := G2.trans gh
  have hwH : w.heap.size ≤ H := by have := G2.size; omega
  have HX := Lib.hid (HX0.out.grew G2b)
  have HH := Lib.hid hH
  have HB0 := Lib.hid hB2b
  clear hH hB2b hB2 gh G2
  refine region_deps 10 [some 14, some 15, some 16, some 17, some 18, some 19, some 20, some 21, some 22, some 23] [[], [], [], [], [], [], [], [], [], []] [] (rgUp w2b B H f src dst p1 k1) rgUp_grew rgUp_lt rgUp_loc (Grew.refl w2b) (by kernel_rfl) (by kernel_rfl) ?_ ?_
  · simp only [List.take_succ_cons, List.take_zero]
    refine GivesAll.cons (fun vs w1 g1 hd K hK => ?_) ?_
    · simp only [putsT, Nat.zero_add, Nat.reduceAdd, List.getD_cons_zero, List.getD_cons_succ, Act.put, List.setIfInBounds_toArray, List.set_cons_zero, List.set_cons_succ] at hK ⊢
      have y0 := (HH.out.grew g1).cell 0
      have y1 := (HH.out.grew g1).cell 1
      have y2 := (HH.out.grew g1).cell 2
      have y3 := (HH.out.grew g1).cell 3
      go_simp
      exact hK _ _ (Grew.refl _) rfl (fun h => by simp at h)
    refine GivesAll.cons (fun vs w1 g1 hd K hK => ?_) ?_
    · have e0 : vs 0 = .agg #[.int .i64 f.s, .int .i64 f.d, .int .i64 (ulN f : Nat), .int .i64 0] := hd 0 (by kernel_rfl)
      simp only [putsT, Nat.zero_add, Nat.reduceAdd, List.getD_cons_zero, List.getD_cons_succ, Act.put, List.setIfInBounds_toArray, List.set_cons_zero, List.set_cons_succ, e0] at hK ⊢
      go_simp
      refine Calls.mono (bytesU_c _ _ _ _ HS.out HDD.out HU.out HK0.out w1) ?_
      rintro e w5 ⟨u, rfl, hb, g5⟩
      obtain ⟨a, c, rfl, _, _⟩ := hb.shape
      rw [uheadB_len] at hb ⊢
      exact hK _ _ g5 ⟨_, _, rfl, hb⟩ (fun h => by simp at h)
    refine GivesAll.cons (fun vs w1 g1 hd K hK => ?_) ?_
    · simp only [putsT, Nat.zero_add, Nat.reduceAdd, List.getD_cons_zero, List.getD_cons_succ, Act.put, List.setIfInBounds_toArray, List.set_cons_zero, List.set_cons_succ] at hK ⊢
      go_simp
      exact hK _ _ (Grew.refl _) rfl (fun h => by simp at h)
    refine GivesAll.cons (fun vs w1 g1 hd K hK => ?_) ?_
    · have e2 : vs 2 = .pointer (some ⟨B, 2, none⟩) := hd 2 (by kernel_rfl)
      simp only [putsT, Nat.zero_add, Nat.reduceAdd, List.getD_cons_zero, List.getD_cons_succ, Act.put, List.setIfInBounds_toArray, List.set_cons_zero, List.set_cons_succ, e2] at hK ⊢
      have y2 := (HB0.out.grew g1).cell 2
      go_simp
      exact hK _ _ (Grew.refl _) rfl (fun h => by simp at h)
    refine GivesAll.cons (fun vs w1 g1 hd K hK => ?_) ?_
    · obtain ⟨a_1, c_1, e1, r1_0⟩ := hd 1 (by kernel_rfl)
      have e3 : vs 3 = .slice p1 f.x.length k1 := hd 3 (by kernel_rfl)
      simp only [putsT, Nat.zero_add, Nat.reduceAdd, List.getD_cons_zero, List.getD_cons_succ, Act.put, List.setIfInBounds_toArray, List.set_cons_zero, List.set_cons_succ, e1, e3] at hK ⊢
      go_simp
      exact hK _ _ ((Grew.refl _).alloc _) ⟨_, rfl, Bufs.ofBlk (Blk.new w1 #[.slice a_1 8 c_1, .slice p1 f.x.length k1] 22 _ rfl) [uheadB f.s f.d (ulN f : Nat) 0, f.x] 2 2 rfl (by unfold maxLen; simp) (fun i hi => by match i, hi with | 0, _ => exact ⟨_, rfl, (r1_0).grew ((Grew.refl w1).alloc _)⟩ | 1, _ => exact ⟨_, rfl, (HX.out.grew g1).grew ((Grew.refl w1).alloc _)⟩)⟩ (fun h => by simp at h)
    refine GivesAll.cons (fun vs w1 g1 hd K hK => ?_) ?_
    · obtain ⟨b0_4, e4, r4_0⟩ := hd 4 (by kernel_rfl)
      simp only [putsT, Nat.zero_add, Nat.reduceAdd, List.getD_cons_zero, List.getD_cons_succ, Act.put, List.setIfInBounds_toArray, List.set_cons_zero, List.set_cons_succ, e4] at hK ⊢
      go_simp
      refine Calls.mono (concat_b w1 r4_0 HLN.out) ?_
      rintro e w5 ⟨u, rfl, hrow, hb, g5⟩
      rw [HFL.out] at hb
      obtain ⟨a, c, rfl, _, _⟩ := hb.shape
      exact hK _ _ g5 ⟨_, _, rfl, hb⟩ (fun h => by simp at h)
    refine GivesAll.cons (fun vs w1 g1 hd K hK => ?_) ?_
    · simp only [putsT, Nat.zero_add, Nat.reduceAdd, List.getD_cons_zero, List.getD_cons_succ, Act.put, List.setIfInBounds_toArray, List.set_cons_zero, List.set_cons_succ] at hK ⊢
      go_simp
      exact hK _ _ (Grew.refl _) rfl (fun h => by simp at h)
    refine GivesAll.cons (fun vs w1 g1 hd K hK => ?_) ?_
    · simp only [putsT, Nat.zero_add, Nat.reduceAdd, List.getD_cons_zero, List.getD_cons_succ, Act.put, List.setIfInBounds_toArray, List.set_cons_zero, List.set_cons_succ] at hK ⊢
      go_simp
      exact hK _ _ (Grew.refl _) rfl (fun h => by simp at h)
    refine GivesAll.cons (fun vs w1 g1 hd K hK => ?_) ?_
    · obtain ⟨a_5, c_5, e5, r5_0⟩ := hd 5 (by kernel_rfl)
      have e6 : vs 6 = .int .u32 src := hd 6 (by kernel_rfl)
      have e7 : vs 7 = .int .u32 dst := hd 7 (by kernel_rfl)
      simp only [putsT, Nat.zero_add, Nat.reduceAdd, List.getD_cons_zero, List.getD_cons_succ, Act.put, List.setIfInBounds_toArray, List.set_cons_zero, List.set_cons_succ, e5, e6, e7] at hK ⊢
      go_simp
      refine Calls.mono (HCS.out w1 _ r5_0) ?_
      rintro e w5 ⟨rfl, g5⟩
      exact hK _ _ g5 rfl (fun h => by simp at h)
    refine GivesAll.cons (fun vs w1 g1 hd K hK => ?_) ?_
    · simp only [putsT, Nat.zero_add, Nat.reduceAdd, List.getD_cons_zero, List.getD_cons_succ, Act.put, List.setIfInBounds_toArray, List.set_cons_zero, List.set_cons_succ] at hK ⊢
      go_simp
      exact hK _ _ (Grew.refl _) rfl (fun h => by simp at h)
    exact GivesAll.nil
  intro vs wz gz hv hap
  have e0 : vs 0 = .agg #[.int .i64 f.s, .int .i64 f.d, .int .i64 (ulN f : Nat), .int .i64 0] := hv 0 (by decide)
  obtain ⟨a_1, c_1, e1, r1_0⟩ := hv 1 (by decide)
  have e2 : vs 2 = .pointer (some ⟨B, 2, none⟩) := hv 2 (by decide)
  have e3 : vs 3 = .slice p1 f.x.length k1 := hv 3 (by decide)
  obtain ⟨b0_4, e4, r4_0⟩ := hv 4 (by decide)
  obtain ⟨a_5, c_5, e5, r5_0⟩ := hv 5 (by decide)
  have e6 : vs 6 = .int .u32 src := hv 6 (by decide)
  have e7 : vs 7 = .int .u32 dst := hv 7 (by decide)
  have e8 : vs 8 = .int .i64 (ckU f src dst) := hv 8 (by decide)
  have e9 : vs 9 = .pointer (some ⟨H, 3, none⟩) := hv 9 (by decide)
  clear hv hap
  simp only [putsT, Nat.zero_add, Nat.reduceAdd, List.getD_cons_zero, List.getD_cons_succ, Act.put, List.setIfInBounds_toArray, List.set_cons_zero, List.set_cons_succ, List.drop_succ_cons, List.drop_zero, e0, e1, e2, e3, e4, e5, e6, e7, e8, e9]
  clear e0 e1 e2 e3 e4 e5 e6 e7 e8 e9
  have hHz := HH.out.grew gz
  have hBz := HB0.out.grew gz
  have Gz := G2b.trans gz
  have x3 := hHz.cell 3
  have q3 := hHz.free 3
  clear r1_0 r4_0 r5_0
  go_upto_region 5 with fail
  have hH3 := hHz.set (o := 3) (.int .i64 (ckU f src dst))
  have hB3 := hBz.other (c := H) (o := 3) hBH (.int .i64 (ckU f src dst))
  have G3 := Gz.setCell (b := H) (o := 3) hwH (.int .i64 (ckU f src dst))
  replace hH3 : Blk _ H #[.int .i64 f.s, .int .i64 f.d, .int .i64 (ulN f : Nat), .int .i64 (ckU f src dst)] 43 := hH3
  have HXw := Lib.hid (HX0.out.grew G3)
  clear x3 q3 hHz hBz Gz
  generalize (wz.setCell ⟨H, 3, none⟩ (.int .i64 (ckU f src dst))) = w3 at *
  have hst := (Grew.refl w3).drew1
  refine wp_region_held_drew (S := fun w' => Grew w3 w') (by kernel_rfl) (by exact hst) (fun hHeld => ?_)
  replace hHeld : Grew w3 w3.drew := hHeld
  generalize w3.drew = wq1 at *
  refine wpAnyH_take (i := 0) (v := ?_) rfl (by kernel_rfl) (by kernel_rfl) (by kernel_rfl) (fun _ _ _ h => h) (Or.inl ⟨by rfl, ?_⟩) hHeld ?_
  rotate_left
  · intro wq hSw
    replace hSw : Grew w3 wq := hSw
    have y0 := (hH3.grew hSw).cell 0
    have y1 := (hH3.grew hSw).cell 1
    have y2 := (hH3.grew hSw).cell 2
    have y3 := (hH3.grew hSw).cell 3
    go_simp
    try with_reducible rfl
  try simp only [List.getElem_toArray, List.getElem_cons_succ, List.getElem_cons_zero, Act.put, List.setIfInBounds_toArray, List.set_cons_zero, List.set_cons_succ]
  refine wpAnyH_take (i := 2) (v := ?_) rfl (by kernel_rfl) (by kernel_rfl) (by kernel_rfl) (fun _ _ _ h => h) (Or.inl ⟨by rfl, ?_⟩) hHeld ?_
  rotate_left
  · intro wq hSw
    replace hSw : Grew w3 wq := hSw
    go_simp
    try with_reducible rfl
  try simp only [List.getElem_toArray, List.getElem_cons_succ, List.getElem_cons_zero, Act.put, List.setIfInBounds_toArray, List.set_cons_zero, List.set_cons_succ]
  refine wpAnyH_take (i := 3) (v := ?_) rfl (by kernel_rfl) (by kernel_rfl) (by kernel_rfl) (fun _ _ _ h => h) (Or.inl ⟨by rfl, ?_⟩) hHeld ?_
  rotate_left
  · intro wq hSw
    replace hSw : Grew w3 wq := hSw
    have y2 := (hB3.grew hSw).cell 2
    go_simp
    try with_reducible rfl
  try simp only [List.getElem_toArray, List.getElem_cons_succ, List.getElem_cons_zero, Act.put, List.setIfInBounds_toArray, List.set_cons_zero, List.set_cons_succ]
  refine wpAnyH_ready (rs := [1]) (by kernel_rfl) (by simp) ?_
  refine AllReadyH.cons rfl (fun K hK => ?_) AllReadyH.nil
  go_simp
  refine (bytesU_c _ _ _ _ HS.out HDD.out HU.out HK.out wq1).mono ?_
  rintro e wk2 ⟨u1, rfl, HD, gk2⟩
  obtain ⟨pu, cu, rfl, z1, z2⟩ := HD.shape
  rw [uheadB_len] at HD ⊢
  clear z1 z2
  replace HD := Lib.hid HD
  refine hK.out _ _ (hHeld.trans gk2) (fun hHeld => ?_)
  clear hK K
  try simp only [List.getElem_toArray, List.getElem_cons_succ, List.getElem_cons_zero, Act.put, List.setIfInBounds_toArray, List.set_cons_zero, List.set_cons_succ]
  refine wpAnyH_ready (rs := [4]) (by kernel_rfl) (by simp) ?_
  refine AllReadyH.cons rfl (fun K hK => ?_) AllReadyH.nil
  go_simp
  have HL := Bufs.ofBlk (Blk.new wk2 #[.slice pu 8 cu, .slice p1 f.x.length k1] 22 _ rfl) [uheadB f.s f.d (ulN f : Nat) (ckU f src dst), f.x] 2 2 rfl (by unfold maxLen; simp) (fun i hi => by
    match i, hi with
    | 0, _ => exact ⟨_, rfl, (HD.out).grew ((Grew.refl wk2).alloc _)⟩
    | 1, _ => exact ⟨_, rfl, (HXw.out.grew hHeld).grew ((Grew.refl wk2).alloc _)⟩)
  have gk3 : Grew wk2 (wk2.alloc (.cells #[.slice pu 8 cu, .slice p1 f.x.length k1] 22)) := (Grew.refl _).alloc _
  replace HL := Lib.hid HL
  replace HD := Lib.hid (HD.out.grew gk3)
  generalize (wk2.alloc (.cells #[.slice pu 8 cu, .slice p1 f.x.length k1] 22)) = wk3 at *
  generalize wk2.heap.size = Qwk3 at *
  refine hK.out _ _ (hHeld.trans gk3) (fun hHeld => ?_)
  clear hK K
  try simp only [List.getElem_toArray, List.getElem_cons_succ, List.getElem_cons_zero, Act.put, List.setIfInBounds_toArray, List.set_cons_zero, List.set_cons_succ]
  refine wpAnyH_ready (rs := [5]) (by kernel_rfl) (by simp) ?_
  refine AllReadyH.cons rfl (fun K hK => ?_) AllReadyH.nil
  go_simp
  refine (concat_b wk3 HL.out HLN2.out).mono ?_
  rintro e wk4 ⟨u, rfl, hrow, HC, gk4⟩
  rw [HFL2.out] at HC
  clear hrow
  replace HC := Lib.hid HC
  replace HD := Lib.hid (HD.out.grew gk4)
  replace HL := Lib.hid (HL.out.grew gk4)
  refine hK.out _ _ (hHeld.trans gk4) (fun hHeld => ?_)
  clear hK K
  try simp only [List.getElem_toArray, List.getElem_cons_succ, List.getElem_cons_zero, Act.put, List.setIfInBounds_toArray, List.set_cons_zero, List.set_cons_succ]
  refine wpAnyH_take (i := 6) (v := ?_) rfl (by kernel_rfl) (by kernel_rfl) (by kernel_rfl) (fun _ _ _ h => h) (Or.inl ⟨by rfl, ?_⟩) hHeld ?_
  rotate_left
  · intro wq hSw
    replace hSw : Grew w3 wq := hSw
    go_simp
    try with_reducible rfl
  try simp only [List.getElem_toArray, List.getElem_cons_succ, List.getElem_cons_zero, Act.put, List.setIfInBounds_toArray, List.set_cons_zero, List.set_cons_succ]
  refine wpAnyH_take (i := 7) (v := ?_) rfl (by kernel_rfl) (by kernel_rfl) (by kernel_rfl) (fun _ _ _ h => h) (Or.inl ⟨by rfl, ?_⟩) hHeld ?_
  rotate_left
  · intro wq hSw
    replace hSw : Grew w3 wq := hSw
    go_simp
    try with_reducible rfl
  try simp only [List.getElem_toArray, List.getElem_cons_succ, List.getElem_cons_zero, Act.put, List.setIfInBounds_toArray, List.set_cons_zero, List.set_cons_succ]
  refine wpAnyH_done (by kernel_rfl) ?_ _
  try simp only [List.getElem_toArray, List.getElem_cons_succ, List.getElem_cons_zero, Act.put, List.setIfInBounds_toArray, List.set_cons_zero, List.set_cons_succ]
  go_wp2_with fail
  go_ret2
  exact ⟨_, rfl, HC.out, G3.trans hHeld⟩
theorem Put18_c {v : Value} {f : UD} (src dst : Int) (hsr : 0 ≤ src ∧ src < 4294967296) (hdr : 0 ≤ dst ∧ dst < 4294967296) (_hx : f.x.length ≤ 140737488355328) {w : World} (hv : Ud w v f) :
    Calls Tryd.prog 7 #[v, .int .u32 src, .int .u32 dst] w fun e w' => ∃ u, e = .returned (.tuple #[u, .int .i64 (putUE f)]) ∧ Buf w' u (putUB f src dst) ∧ Grew w w' := by
  have hv' := hv
  obtain ⟨p1, k1, rfl, b1⟩ := hv.shape
  unfold putUE putUB
  cases h : okU f
  · exact (put_no src dst h hv').mono fun _ _ ⟨h1, h2⟩ => ⟨_, h1, Buf.nil _, h2⟩
  · exact put_yes src dst hsr hdr h hv' b1
end Go.Proofs.YtcaafinjphionaaDoor
