/-
  Package seg: what a checksum is reckoned of, why bytes are none, Put and Get, of all segments and bytes.
-/
import Derived.Test.YtiaejlbkdgcfiaaSgE
import Derived.Test.YtiaejlbkdgcfiaaSgW
import Derived.Test.YtiaejlbkdgcfiaaTwo
import Derived.Test.YtiaejlbkdgcfiaaSmB
set_option maxRecDepth 4000
set_option linter.unusedVariables false
set_option linter.unusedSimpArgs false
namespace Go.Proofs.Ytiaejlbkdgcfiaa
open Go.RowKit

set_option maxHeartbeats 1000000 in
theorem coveredS_c {v : Value} {xs : List Int} (src dst : Int) (hsr : 0 ≤ src ∧ src < 4294967296) (hdr : 0 ≤ dst ∧ dst < 4294967296) (hl : xs.length ≤ 140737488355000) {w : World} (hb : Buf w v xs) :
    Calls Try.prog 25 #[v, .int .u32 src, .int .u32 dst] w fun e w' => ∃ u, e = .returned u ∧ Buf w' u (psSG src dst xs.length ++ xs) ∧ Grew w w' := by
  have HB := Lib.hid hb
  have HLN := Lib.hid (show [psSG src dst xs.length, xs].flatten.length ≤ 140737488355328 by simp [psSG_len]; omega)
  have HFL := Lib.hid (show [psSG src dst xs.length, xs].flatten = psSG src dst xs.length ++ xs by simp)
  obtain ⟨a, c, rfl, _, _⟩ := hb.shape
  clear hb
  generalize xs.length = n at *
  go_enter Try.func25, Try.ntmps25
  go_wp2_with fail
  refine (pseudo_c src dst 6 (n : Nat) hsr hdr (by omega) (by omega) w).mono ?_
  rintro e w1 ⟨u, rfl, hr, hp, g1⟩
  replace hp : Buf w1 u (psSG src dst n) := hp
  obtain ⟨pu, cu, rfl, _, _⟩ := hp.shape
  have HP := Lib.hid hp
  clear hr hp
  rw [psSG_len] at HP ⊢
  have HL := Lib.hid (Bufs.ofBlk (Blk.new w1 #[.slice pu 12 cu, .slice a n c] 23 _ rfl) [psSG src dst n, xs] 2 2 rfl (by unfold maxLen; simp) (fun i hi => by
    match i, hi with
    | 0, _ => exact ⟨_, rfl, HP.out.grew ((Grew.refl w1).alloc _)⟩
    | 1, _ => exact ⟨_, rfl, HB.out.grew (g1.alloc _)⟩))
  have gA : Grew w (w1.alloc (.cells #[.slice pu 12 cu, .slice a n c] 23)) := g1.alloc _
  go_wp2_with (go_at_call 21; refine (concat_b _ HL.out HLN.out).mono ?_; rintro e w9 ⟨u9, rfl, hrow, HC, g9⟩; rw [HFL.out] at HC; have HC9 := Lib.hid HC; clear HC hrow)
  go_ret
  exact ⟨_, rfl, HC9.out, gA.trans g9⟩
/-- Why bytes are no segment's, options aside. -/
def ckE (b : List Int) (src dst : Int) : Int :=
  if b.length < 20 then 160 else if 65535 < b.length ∨ hoSG b < 20 then 161 else if b.length < hoSG b then 160 else if sumV (psSG src dst b.length ++ b) ≠ 0 then 162 else 0
theorem getSGE_ck (b : List Int) (src dst : Int) : getSGE b src dst = if ckE b src dst ≠ 0 then ckE b src dst else if (mssV (cutL b 20 (hoSG b))).2 = false then 161 else 0 := by
  unfold getSGE ckE
  repeat' split
  all_goals first | rfl | omega | (exfalso; simp_all) | simp_all
theorem ckS_0 (a : Option Addr) (n c N : Nat) (src dst : Int) (k0 : ((n : Int) < 20)) (w : World)  :
    Calls Try.prog 30 #[.slice a n c, .int .u32 src, .int .u32 dst] w fun e w' => e = .returned (.int .i64 160) ∧ Grew w w' := by
  go_enter Try.func30, Try.ntmps30
  go_wp2_with fail
  go_ret
  exact ⟨rfl, Grew.refl _⟩
theorem ckS_1 (a : Option Addr) (n c N : Nat) (src dst : Int) (k0 : ¬ ((n : Int) < 20)) (k1 : ((65535 : Int) < (n : Nat))) (w : World)  :
    Calls Try.prog 30 #[.slice a n c, .int .u32 src, .int .u32 dst] w fun e w' => e = .returned (.int .i64 161) ∧ Grew w w' := by
  go_enter Try.func30, Try.ntmps30
  go_wp2_with fail
  go_ret
  exact ⟨rfl, Grew.refl _⟩
theorem ckS_2 (a : Option Addr) (n c N : Nat) (src dst : Int) (k0 : ¬ ((n : Int) < 20)) (k1 : ¬ ((65535 : Int) < (n : Nat))) (k2 : ((N : Int) < 20)) (w : World) (HT : ∀ w', Grew w w' → Calls Try.prog 47 #[.slice a n c] w' fun e w'' => e = .returned (.int .i64 (N : Nat)) ∧ w'' = w') :
    Calls Try.prog 30 #[.slice a n c, .int .u32 src, .int .u32 dst] w fun e w' => e = .returned (.int .i64 161) ∧ Grew w w' := by
  have HT0 := Lib.hid HT
  clear HT
  go_enter Try.func30, Try.ntmps30
  go_wp2_with fail
  refine (HT0.out _ (Grew.refl _)).mono ?_
  rintro e wx ⟨rfl, hx⟩
  obtain rfl := hx.symm
  go_wp2_with fail
  go_ret
  exact ⟨rfl, Grew.refl _⟩
theorem ckS_3 (a : Option Addr) (n c N : Nat) (src dst : Int) (k0 : ¬ ((n : Int) < 20)) (k1 : ¬ ((65535 : Int) < (n : Nat))) (k2 : ¬ ((N : Int) < 20)) (k3 : ((n : Int) < (N : Nat))) (w : World) (HT : ∀ w', Grew w w' → Calls Try.prog 47 #[.slice a n c] w' fun e w'' => e = .returned (.int .i64 (N : Nat)) ∧ w'' = w') :
    Calls Try.prog 30 #[.slice a n c, .int .u32 src, .int .u32 dst] w fun e w' => e = .returned (.int .i64 160) ∧ Grew w w' := by
  have HT0 := Lib.hid HT
  clear HT
  go_enter Try.func30, Try.ntmps30
  go_wp2_with fail
  refine (HT0.out _ (Grew.refl _)).mono ?_
  rintro e wx ⟨rfl, hx⟩
  obtain rfl := hx.symm
  go_wp2_with fail
  refine (HT0.out _ (Grew.refl _)).mono ?_
  rintro e wx ⟨rfl, hx⟩
  obtain rfl := hx.symm
  go_wp2_with fail
  go_ret
  exact ⟨rfl, Grew.refl _⟩
theorem ckS_4 (a : Option Addr) (n c N : Nat) (ys : List Int) (src dst : Int) (k0 : ¬ ((n : Int) < 20)) (k1 : ¬ ((65535 : Int) < (n : Nat))) (k2 : ¬ ((N : Int) < 20)) (k3 : ¬ ((n : Int) < (N : Nat))) (w : World) (HT : ∀ w', Grew w w' → Calls Try.prog 47 #[.slice a n c] w' fun e w'' => e = .returned (.int .i64 (N : Nat)) ∧ w'' = w') (HC : ∀ w', Grew w w' → Calls Try.prog 25 #[.slice a n c, .int .u32 src, .int .u32 dst] w' fun e w'' => ∃ u, e = .returned u ∧ Buf w'' u ys ∧ Grew w' w'') (HR : ∀ w' u, Buf w' u ys → Calls Try.prog 48 #[u] w' fun e w'' => e = .returned (.bool false) ∧ Grew w' w'') :
    Calls Try.prog 30 #[.slice a n c, .int .u32 src, .int .u32 dst] w fun e w' => e = .returned (.int .i64 162) ∧ Grew w w' := by
  have HT0 := Lib.hid HT
  have HC0 := Lib.hid HC
  have HR0 := Lib.hid HR
  clear HT HC HR
  go_enter Try.func30, Try.ntmps30
  go_wp2_with fail
  refine (HT0.out _ (Grew.refl _)).mono ?_
  rintro e wx ⟨rfl, hx⟩
  obtain rfl := hx.symm
  go_wp2_with fail
  refine (HT0.out _ (Grew.refl _)).mono ?_
  rintro e wx ⟨rfl, hx⟩
  obtain rfl := hx.symm
  go_wp2_with fail
  refine (HC0.out w (Grew.refl _)).mono ?_
  rintro e w1 ⟨u, rfl, hb1, g1⟩
  go_wp2_with fail
  refine (HR0.out w1 u hb1).mono ?_
  rintro e w2 ⟨rfl, g2⟩
  go_wp2_with fail
  go_ret
  exact ⟨rfl, g1.trans g2⟩
theorem ckS_5 (a : Option Addr) (n c N : Nat) (ys : List Int) (src dst : Int) (k0 : ¬ ((n : Int) < 20)) (k1 : ¬ ((65535 : Int) < (n : Nat))) (k2 : ¬ ((N : Int) < 20)) (k3 : ¬ ((n : Int) < (N : Nat))) (w : World) (HT : ∀ w', Grew w w' → Calls Try.prog 47 #[.slice a n c] w' fun e w'' => e = .returned (.int .i64 (N : Nat)) ∧ w'' = w') (HC : ∀ w', Grew w w' → Calls Try.prog 25 #[.slice a n c, .int .u32 src, .int .u32 dst] w' fun e w'' => ∃ u, e = .returned u ∧ Buf w'' u ys ∧ Grew w' w'') (HR : ∀ w' u, Buf w' u ys → Calls Try.prog 48 #[u] w' fun e w'' => e = .returned (.bool true) ∧ Grew w' w'') :
    Calls Try.prog 30 #[.slice a n c, .int .u32 src, .int .u32 dst] w fun e w' => e = .returned (.int .i64 0) ∧ Grew w w' := by
  have HT0 := Lib.hid HT
  have HC0 := Lib.hid HC
  have HR0 := Lib.hid HR
  clear HT HC HR
  go_enter Try.func30, Try.ntmps30
  go_wp2_with fail
  refine (HT0.out _ (Grew.refl _)).mono ?_
  rintro e wx ⟨rfl, hx⟩
  obtain rfl := hx.symm
  go_wp2_with fail
  refine (HT0.out _ (Grew.refl _)).mono ?_
  rintro e wx ⟨rfl, hx⟩
  obtain rfl := hx.symm
  go_wp2_with fail
  refine (HC0.out w (Grew.refl _)).mono ?_
  rintro e w1 ⟨u, rfl, hb1, g1⟩
  go_wp2_with fail
  refine (HR0.out w1 u hb1).mono ?_
  rintro e w2 ⟨rfl, g2⟩
  go_wp2_with fail
  go_ret
  exact ⟨rfl, g1.trans g2⟩
theorem checkS_c {v : Value} {xs : List Int} (src dst : Int) (hsr : 0 ≤ src ∧ src < 4294967296) (hdr : 0 ≤ dst ∧ dst < 4294967296) {w : World} (hb : Buf w v xs) :
    Calls Try.prog 30 #[v, .int .u32 src, .int .u32 dst] w fun e w' => e = .returned (.int .i64 (ckE xs src dst)) ∧ Grew w w' := by
  have hq := hb
  obtain ⟨a, c, rfl, _, _⟩ := hb.shape
  unfold ckE
  by_cases k0 : xs.length < 20
  · rw [if_pos k0]; exact ckS_0 a _ c 0 src dst (by omega) w
  · rw [if_neg k0]
    by_cases k1 : 65535 < xs.length
    · rw [if_pos (.inl k1)]; exact ckS_1 a _ c 0 src dst (by omega) (by omega) w
    · have HT : ∀ w', Grew w w' → Calls Try.prog 47 #[.slice a xs.length c] w' fun e w'' => e = .returned (.int .i64 (hoSG xs : Nat)) ∧ w'' = w' := fun w' g => sgTold_c (by omega) w' (hq.grew g)
      by_cases k2 : hoSG xs < 20
      · rw [if_pos (.inr k2)]; exact ckS_2 a _ c (hoSG xs) src dst (by omega) (by omega) (by omega) w HT
      · rw [if_neg (by omega)]
        by_cases k3 : xs.length < hoSG xs
        · rw [if_pos k3]; exact ckS_3 a _ c (hoSG xs) src dst (by omega) (by omega) (by omega) (by omega) w HT
        · rw [if_neg k3]
          have HC : ∀ w', Grew w w' → Calls Try.prog 25 #[.slice a xs.length c, .int .u32 src, .int .u32 dst] w' fun e w'' => ∃ u, e = .returned u ∧ Buf w'' u (psSG src dst xs.length ++ xs) ∧ Grew w' w'' := fun w' g => coveredS_c src dst hsr hdr (by omega) (hq.grew g)
          have HR : ∀ w' u, Buf w' u (psSG src dst xs.length ++ xs) → Calls Try.prog 48 #[u] w' fun e w'' => e = .returned (.bool (decide (sumV (psSG src dst xs.length ++ xs) = 0))) ∧ Grew w' w'' := fun w' u h => right_c w' h (by rw [List.length_append, psSG_len]; omega)
          by_cases k4 : sumV (psSG src dst xs.length ++ xs) = 0
          · rw [if_neg (fun h => h k4)]
            rw [decide_eq_true k4] at HR
            exact ckS_5 a _ c (hoSG xs) _ src dst (by omega) (by omega) (by omega) (by omega) w HT HC HR
          · rw [if_pos k4]
            rw [decide_eq_false k4] at HR
            exact ckS_4 a _ c (hoSG xs) _ src dst (by omega) (by omega) (by omega) (by omega) w HT HC HR
set_option maxHeartbeats 1000000 in
theorem segmentS_c (s d q a N fl wn m : Int) (p : Option Addr) (n k : Nat) (w : World) :
    Calls Try.prog 32 #[.agg #[.int .i64 s, .int .i64 d, .int .u32 q, .int .u32 a, .int .i64 N, .int .i64 fl, .int .i64 wn, .int .i64 m], .slice p n k] w fun e w' => e = .returned (.agg #[.int .i64 s, .int .i64 d, .int .u32 q, .int .u32 a, .int .i64 fl, .int .i64 wn, .int .i64 m, .slice p n k]) ∧ Grew w w' := by
  go_enter Try.func32, Try.ntmps32
  go_upto_region 1 with fail
  have hB : Blk ((w.alloc (.cells #[.int .i64 s, .int .i64 d, .int .u32 q, .int .u32 a, .int .i64 N, .int .i64 fl, .int .i64 wn, .int .i64 m] 50)).alloc (.cells #[.int .i64 0, .int .i64 0, .int .u32 0, .int .u32 0, .int .i64 0, .int .i64 0, .int .i64 0, .slice none 0 0] 25)) w.heap.size #[.int .i64 s, .int .i64 d, .int .u32 q, .int .u32 a, .int .i64 N, .int .i64 fl, .int .i64 wn, .int .i64 m] 50 := (Blk.new _ _ _ _ rfl).alloc _
  have hR : Blk ((w.alloc (.cells #[.int .i64 s, .int .i64 d, .int .u32 q, .int .u32 a, .int .i64 N, .int .i64 fl, .int .i64 wn, .int .i64 m] 50)).alloc (.cells #[.int .i64 0, .int .i64 0, .int .u32 0, .int .u32 0, .int .i64 0, .int .i64 0, .int .i64 0, .slice none 0 0] 25)) (w.heap.size + 1) #[.int .i64 0, .int .i64 0, .int .u32 0, .int .u32 0, .int .i64 0, .int .i64 0, .int .i64 0, .slice none 0 0] 25 := Blk.new _ _ _ _ (by simp)
  have g0 : Grew w ((w.alloc (.cells #[.int .i64 s, .int .i64 d, .int .u32 q, .int .u32 a, .int .i64 N, .int .i64 fl, .int .i64 wn, .int .i64 m] 50)).alloc (.cells #[.int .i64 0, .int .i64 0, .int .u32 0, .int .u32 0, .int .i64 0, .int .i64 0, .int .i64 0, .slice none 0 0] 25)) := ((Grew.refl _).alloc _).alloc _
  generalize ((w.alloc (.cells #[.int .i64 s, .int .i64 d, .int .u32 q, .int .u32 a, .int .i64 N, .int .i64 fl, .int .i64 wn, .int .i64 m] 50)).alloc (.cells #[.int .i64 0, .int .i64 0, .int .u32 0, .int .u32 0, .int .i64 0, .int .i64 0, .int .i64 0, .slice none 0 0] 25)) = w0 at *
  generalize hlR : w.heap.size + 1 = R at *
  generalize hlB : w.heap.size = B at *
  have hwR : w.heap.size ≤ R := by omega
  clear hlB hlR
  have y0 := hB.cell 0
  have y1 := hB.cell 1
  have y2 := hB.cell 2
  have y3 := hB.cell 3
  have y4 := hB.cell 4
  have y5 := hB.cell 5
  have y6 := hB.cell 6
  have y7 := hB.cell 7
  have x0 := hR.cell 0
  have x1 := hR.cell 1
  have x2 := hR.cell 2
  have x3 := hR.cell 3
  have x4 := hR.cell 4
  have x5 := hR.cell 5
  have x6 := hR.cell 6
  have x7 := hR.cell 7
  have f0 := hR.free 0
  have f1 := hR.free 1
  have f2 := hR.free 2
  have f3 := hR.free 3
  have f4 := hR.free 4
  have f5 := hR.free 5
  have f6 := hR.free 6
  have f7 := hR.free 7
  go_wp2_with fail
  have E := ((((((((hR.set (o := 0) (.int .i64 s)).set (o := 1) (.int .i64 d)).set (o := 2) (.int .u32 q)).set (o := 3) (.int .u32 a)).set (o := 4) (.int .i64 fl)).set (o := 5) (.int .i64 wn)).set (o := 6) (.int .i64 m)).set (o := 7) (.slice p n k))
  have GE := ((((((((g0.setCell (b := R) (o := 0) (by omega) (.int .i64 s)).setCell (b := R) (o := 1) (by omega) (.int .i64 d)).setCell (b := R) (o := 2) (by omega) (.int .u32 q)).setCell (b := R) (o := 3) (by omega) (.int .u32 a)).setCell (b := R) (o := 4) (by omega) (.int .i64 fl)).setCell (b := R) (o := 5) (by omega) (.int .i64 wn)).setCell (b := R) (o := 6) (by omega) (.int .i64 m)).setCell (b := R) (o := 7) (by omega) (.slice p n k))
  have e0 := E.cell 0
  have e1 := E.cell 1
  have e2 := E.cell 2
  have e3 := E.cell 3
  have e4 := E.cell 4
  have e5 := E.cell 5
  have e6 := E.cell 6
  have e7 := E.cell 7
  exact bodyPost_ret (v := .agg #[.int .i64 s, .int .i64 d, .int .u32 q, .int .u32 a, .int .i64 fl, .int .i64 wn, .int .i64 m, .slice p n k]) (by simp [results, Try.results32, go_sem, e0, e1, e2, e3, e4, e5, e6, e7]) rfl ⟨rfl, GE⟩
theorem putS_no {f : SGR} {p1 : Option Addr} {k1 : Nat} (src dst : Int) (hx : f.x.length ≤ 140737488355328) (hok : okSG f = false) {w : World} (hv : Sg w (.agg #[.int .i64 f.s, .int .i64 f.d, .int .u32 f.q, .int .u32 f.a, .int .i64 f.fl, .int .i64 f.wn, .int .i64 f.m, .slice p1 f.x.length k1]) f) :
    Calls Try.prog 8 #[.agg #[.int .i64 f.s, .int .i64 f.d, .int .u32 f.q, .int .u32 f.a, .int .i64 f.fl, .int .i64 f.wn, .int .i64 f.m, .slice p1 f.x.length k1], .int .u32 src, .int .u32 dst] w fun e w' => e = .returned (.tuple #[.slice none 0 0, .int .i64 2]) ∧ Grew w w' := by
  have HI := Lib.hid (fun w' (g : Grew w w') => isSegment_c hx (hv.grew g))
  rw [hok] at HI
  clear hv hok
  go_enter Try.func8, Try.ntmps8
  go_upto_region 1 with fail
  have hB : Blk (w.alloc (.cells #[.int .i64 f.s, .int .i64 f.d, .int .u32 f.q, .int .u32 f.a, .int .i64 f.fl, .int .i64 f.wn, .int .i64 f.m, .slice p1 f.x.length k1] 25)) w.heap.size #[.int .i64 f.s, .int .i64 f.d, .int .u32 f.q, .int .u32 f.a, .int .i64 f.fl, .int .i64 f.wn, .int .i64 f.m, .slice p1 f.x.length k1] 25 := Blk.new _ _ _ _ rfl
  have g0 : Grew w (w.alloc (.cells #[.int .i64 f.s, .int .i64 f.d, .int .u32 f.q, .int .u32 f.a, .int .i64 f.fl, .int .i64 f.wn, .int .i64 f.m, .slice p1 f.x.length k1] 25)) := (Grew.refl _).alloc _
  generalize (w.alloc (.cells #[.int .i64 f.s, .int .i64 f.d, .int .u32 f.q, .int .u32 f.a, .int .i64 f.fl, .int .i64 f.wn, .int .i64 f.m, .slice p1 f.x.length k1] 25)) = w0 at *
  generalize hlB : w.heap.size = B at *
  have y0 := hB.cell 0
  have y1 := hB.cell 1
  have y2 := hB.cell 2
  have y3 := hB.cell 3
  have y4 := hB.cell 4
  have y5 := hB.cell 5
  have y6 := hB.cell 6
  have y7 := hB.cell 7
  go_wp2_with fail
  refine (HI.out _ g0).mono ?_
  rintro e w1 ⟨rfl, g1⟩
  go_wp2_with fail
  go_ret2
  exact ⟨rfl, g0.trans g1⟩
theorem rawSG_eq {f : SGR} (h : okSG f = true) : headS f ++ f.x = rawSG f := by
  have hk := okSG_spec h
  unfold headS rawSG
  rw [show f.fl % 256 = f.fl by omega]
theorem rawSG_16 (f : SGR) : (rawSG f).getD 16 0 = 0 ∧ (rawSG f).getD (16 + 1) 0 = 0 := by
  have e : rawSG f = (pre12 f ++ [80 + 4 * ((opSG f).length : Int), f.fl] ++ putL f.wn 2 true) ++ ([0, 0, 0, 0] ++ (opSG f ++ f.x)) := by unfold rawSG; simp only [List.append_assoc]
  have hl : (pre12 f ++ [80 + 4 * ((opSG f).length : Int), f.fl] ++ putL f.wn 2 true).length = 16 := by simp [pre12_len, putB_len]
  rw [e]
  constructor
  · rw [List.getD_eq_getElem?_getD, List.getElem?_append_right (by omega), hl]; rfl
  · rw [List.getD_eq_getElem?_getD, List.getElem?_append_right (by omega), hl]; rfl
theorem patch_putSG (f : SGR) (src dst : Int) : patchV (psSG src dst (slN f) ++ rawSG f) 28 = psSG src dst (slN f) ++ putSG f src dst := by
  have hl := rawSG_len f
  have hs : 20 ≤ slN f := by unfold slN; omega
  have hp := psSG_len src dst (slN f)
  have e0 : putTwo (rawSG f) 16 0 0 = rawSG f := by
    have := putTwo_same (xs := rawSG f) (k := 16) (by omega)
    rwa [(rawSG_16 f).1, (rawSG_16 f).2] at this
  have e1 : ∀ x y, putTwo (psSG src dst (slN f) ++ rawSG f) 28 x y = psSG src dst (slN f) ++ putTwo (rawSG f) 16 x y := fun x y => by
    have := putTwo_right (a := psSG src dst (slN f)) (b := rawSG f) (k := 16) x y
    rwa [hp] at this
  have hy := patchV_yes (xs := psSG src dst (slN f) ++ rawSG f) 28 (by unfold isPairV; exact decide_eq_true (by rw [List.length_append]; omega))
  rw [show ((28 : Nat) : Int) = 28 from rfl] at hy
  rw [hy, e1, e1, e0]
  rfl
set_option maxHeartbeats 4000000 in
theorem putS_yes {f : SGR} {p1 : Option Addr} {k1 : Nat} (src dst : Int) (hsr : 0 ≤ src ∧ src < 4294967296) (hdr : 0 ≤ dst ∧ dst < 4294967296) (hx : f.x.length ≤ 140737488355328) (hok : okSG f = true) {w : World} (hv : Sg w (.agg #[.int .i64 f.s, .int .i64 f.d, .int .u32 f.q, .int .u32 f.a, .int .i64 f.fl, .int .i64 f.wn, .int .i64 f.m, .slice p1 f.x.length k1]) f) (hb1 : Buf w (.slice p1 f.x.length k1) f.x) :
    Calls Try.prog 8 #[.agg #[.int .i64 f.s, .int .i64 f.d, .int .u32 f.q, .int .u32 f.a, .int .i64 f.fl, .int .i64 f.wn, .int .i64 f.m, .slice p1 f.x.length k1], .int .u32 src, .int .u32 dst] w fun e w' => ∃ u, e = .returned (.tuple #[u, .int .i64 0]) ∧ Buf w' u (putSG f src dst) ∧ Grew w w' := by
  have hk := okSG_spec hok
  have HI := Lib.hid (fun w' (g : Grew w w') => isSegment_c hx (hv.grew g))
  rw [hok] at HI
  have HBY := Lib.hid (fun w' => bytesS_c hv.q hv.a hv.m w')
  have HFL := Lib.hid (show [headS f, f.x].flatten = rawSG f by rw [← rawSG_eq hok]; simp)
  have HLN := Lib.hid (show [headS f, f.x].flatten.length ≤ 140737488355328 by rw [HFL.out, rawSG_len]; have := opSG_len f; unfold slN; omega)
  have HSL := Lib.hid (show slN f ≤ 70000 by have := opSG_len f; unfold slN; omega)
  have HS20 := Lib.hid (show 12 ≤ slN f by unfold slN; omega)
  have HPO := Lib.hid (putSG_ok hok hb1.ok src dst)
  have HCV : Hid (∀ (w' : World) (v : Value), Buf w' v (rawSG f) → Calls Try.prog 25 #[v, .int .u32 src, .int .u32 dst] w' fun e w'' => ∃ u, e = .returned u ∧ Buf w'' u (psSG src dst (slN f) ++ rawSG f) ∧ Grew w' w'') := Lib.hid (fun w' v h => by
    have := coveredS_c src dst hsr hdr (by rw [rawSG_len]; have := HSL.out; omega) h
    rwa [rawSG_len] at this)
  have HPT : Hid (∀ (w' : World) (v : Value), Buf w' v (psSG src dst (slN f) ++ rawSG f) → Calls Try.prog 24 #[v, .int .i64 28] w' fun e w'' => ∃ u, e = .returned u ∧ Buf w'' u (psSG src dst (slN f) ++ putSG f src dst) ∧ Grew w' w'') := Lib.hid (fun w' v h => by
    refine (patch_c 28 (by omega) (by omega) w' h (by rw [List.length_append, psSG_len, rawSG_len]; have := HSL.out; omega)).mono ?_
    rintro e w2 ⟨u, he, hr, g⟩
    rw [patch_putSG] at hr
    exact ⟨u, he, hr.buf ((psSG_ok _ _ _).append HPO.out), g⟩)
  have HLT := Lib.hid (show (psSG src dst (slN f) ++ putSG f src dst).length = 12 + slN f by rw [List.length_append, psSG_len, putSG_len])
  have HLC := Lib.hid (show cutL (psSG src dst (slN f) ++ putSG f src dst) 12 (12 + slN f) = putSG f src dst by rw [cutL_right _ _ _ _ (by rw [psSG_len]; omega), psSG_len, show 12 + slN f - 12 = slN f by omega, show 12 - 12 = 0 from rfl, cutL_whole (putSG_len f src dst)])
  have H1 := Lib.hid hb1
  clear hv hok hb1 hk
  go_enter Try.func8, Try.ntmps8
  go_upto_region 1 with fail
  have hB : Blk (w.alloc (.cells #[.int .i64 f.s, .int .i64 f.d, .int .u32 f.q, .int .u32 f.a, .int .i64 f.fl, .int .i64 f.wn, .int .i64 f.m, .slice p1 f.x.length k1] 25)) w.heap.size #[.int .i64 f.s, .int .i64 f.d, .int .u32 f.q, .int .u32 f.a, .int .i64 f.fl, .int .i64 f.wn, .int .i64 f.m, .slice p1 f.x.length k1] 25 := Blk.new _ _ _ _ rfl
  have g0 : Grew w (w.alloc (.cells #[.int .i64 f.s, .int .i64 f.d, .int .u32 f.q, .int .u32 f.a, .int .i64 f.fl, .int .i64 f.wn, .int .i64 f.m, .slice p1 f.x.length k1] 25)) := (Grew.refl _).alloc _
  generalize (w.alloc (.cells #[.int .i64 f.s, .int .i64 f.d, .int .u32 f.q, .int .u32 f.a, .int .i64 f.fl, .int .i64 f.wn, .int .i64 f.m, .slice p1 f.x.length k1] 25)) = w0 at *
  generalize hlB : w.heap.size = B at *
  have y0 := hB.cell 0
  have y1 := hB.cell 1
  have y2 := hB.cell 2
  have y3 := hB.cell 3
  have y4 := hB.cell 4
  have y5 := hB.cell 5
  have y6 := hB.cell 6
  have y7 := hB.cell 7
  go_wp2_with fail
  refine (HI.out _ g0).mono ?_
  rintro e w1 ⟨rfl, g1⟩
  have G1 := g0.trans g1
  have hB1 := hB.grew g1
  replace H1 := Lib.hid (H1.out.grew G1)
  clear y0 y1 y2 y3 y4 y5 y6 y7 hB g0 g1 HI
  go_upto_region 3 with fail
  have hst := (Grew.refl w1).drew1
  refine wp_region_held_drew (S := fun w' => Grew w1 w') (by kernel_rfl) (by exact hst) (fun hHeld => ?_)
  replace hHeld : Grew w1 w1.drew := hHeld
  generalize w1.drew = wq1 at *
  refine wpAnyH_take (i := 0) (v := ?_) rfl (by kernel_rfl) (by kernel_rfl) (by kernel_rfl) (fun _ _ _ h => h) (Or.inl ⟨by rfl, ?_⟩) hHeld ?_
  rotate_left
  · intro wq hSw
    replace hSw : Grew w1 wq := hSw
    have y0 := (hB1.grew hSw).cell 0
    have y1 := (hB1.grew hSw).cell 1
    have y2 := (hB1.grew hSw).cell 2
    have y3 := (hB1.grew hSw).cell 3
    have y4 := (hB1.grew hSw).cell 4
    have y5 := (hB1.grew hSw).cell 5
    have y6 := (hB1.grew hSw).cell 6
    have y7 := (hB1.grew hSw).cell 7
    go_simp
    try with_reducible rfl
  try simp only [List.getElem_toArray, List.getElem_cons_succ, List.getElem_cons_zero, Act.put, List.setIfInBounds_toArray, List.set_cons_zero, List.set_cons_succ]
  refine wpAnyH_take (i := 3) (v := ?_) rfl (by kernel_rfl) (by kernel_rfl) (by kernel_rfl) (fun _ _ _ h => h) (Or.inl ⟨by rfl, ?_⟩) hHeld ?_
  rotate_left
  · intro wq hSw
    replace hSw : Grew w1 wq := hSw
    go_simp
    try with_reducible rfl
  try simp only [List.getElem_toArray, List.getElem_cons_succ, List.getElem_cons_zero, Act.put, List.setIfInBounds_toArray, List.set_cons_zero, List.set_cons_succ]
  refine wpAnyH_take (i := 4) (v := ?_) rfl (by kernel_rfl) (by kernel_rfl) (by kernel_rfl) (fun _ _ _ h => h) (Or.inl ⟨by rfl, ?_⟩) hHeld ?_
  rotate_left
  · intro wq hSw
    replace hSw : Grew w1 wq := hSw
    have y7 := (hB1.grew hSw).cell 7
    go_simp
    try with_reducible rfl
  try simp only [List.getElem_toArray, List.getElem_cons_succ, List.getElem_cons_zero, Act.put, List.setIfInBounds_toArray, List.set_cons_zero, List.set_cons_succ]
  refine wpAnyH_ready (rs := [1]) (by kernel_rfl) (by simp) ?_
  refine AllReadyH.cons rfl (fun K hK => ?_) AllReadyH.nil
  go_simp
  refine (headOf_c wq1).mono ?_
  rintro e wk2 ⟨rfl, gk2⟩
  refine hK.out _ _ (hHeld.trans gk2) (fun hHeld => ?_)
  clear hK K
  try simp only [List.getElem_toArray, List.getElem_cons_succ, List.getElem_cons_zero, Act.put, List.setIfInBounds_toArray, List.set_cons_zero, List.set_cons_succ]
  refine wpAnyH_ready (rs := [2]) (by kernel_rfl) (by simp) ?_
  refine AllReadyH.cons rfl (fun K hK => ?_) AllReadyH.nil
  go_simp
  refine (HBY.out wk2).mono ?_
  rintro e wk3 ⟨u1, rfl, HD, gk3⟩
  obtain ⟨pu, cu, rfl, z1, z2⟩ := HD.shape
  rw [headS_len] at HD ⊢
  clear z1 z2
  replace HD := Lib.hid HD
  refine hK.out _ _ (hHeld.trans gk3) (fun hHeld => ?_)
  clear hK K
  try simp only [List.getElem_toArray, List.getElem_cons_succ, List.getElem_cons_zero, Act.put, List.setIfInBounds_toArray, List.set_cons_zero, List.set_cons_succ]
  refine wpAnyH_ready (rs := [5]) (by kernel_rfl) (by simp) ?_
  refine AllReadyH.cons rfl (fun K hK => ?_) AllReadyH.nil
  go_simp
  have HL := Bufs.ofBlk (Blk.new wk3 #[.slice pu (20 + (opSG f).length) cu, .slice p1 f.x.length k1] 23 _ rfl) [headS f, f.x] 2 2 rfl (by unfold maxLen; simp) (fun i hi => by
    match i, hi with
    | 0, _ => exact ⟨_, rfl, (HD.out).grew ((Grew.refl wk3).alloc _)⟩
    | 1, _ => exact ⟨_, rfl, (H1.out.grew hHeld).grew ((Grew.refl wk3).alloc _)⟩)
  have gk4 : Grew wk3 (wk3.alloc (.cells #[.slice pu (20 + (opSG f).length) cu, .slice p1 f.x.length k1] 23)) := (Grew.refl _).alloc _
  replace HL := Lib.hid HL
  replace HD := Lib.hid (HD.out.grew gk4)
  generalize (wk3.alloc (.cells #[.slice pu (20 + (opSG f).length) cu, .slice p1 f.x.length k1] 23)) = wk4 at *
  generalize wk3.heap.size = Qwk4 at *
  refine hK.out _ _ (hHeld.trans gk4) (fun hHeld => ?_)
  clear hK K
  try simp only [List.getElem_toArray, List.getElem_cons_succ, List.getElem_cons_zero, Act.put, List.setIfInBounds_toArray, List.set_cons_zero, List.set_cons_succ]
  refine wpAnyH_ready (rs := [6]) (by kernel_rfl) (by simp) ?_
  refine AllReadyH.cons rfl (fun K hK => ?_) AllReadyH.nil
  go_simp
  refine (concat_b wk4 HL.out HLN.out).mono ?_
  rintro e wk5 ⟨u, rfl, hrow, HC, gk5⟩
  rw [HFL.out] at HC
  clear hrow
  replace HC := Lib.hid HC
  replace HD := Lib.hid (HD.out.grew gk5)
  replace HL := Lib.hid (HL.out.grew gk5)
  refine hK.out _ _ (hHeld.trans gk5) (fun hHeld => ?_)
  clear hK K
  try simp only [List.getElem_toArray, List.getElem_cons_succ, List.getElem_cons_zero, Act.put, List.setIfInBounds_toArray, List.set_cons_zero, List.set_cons_succ]
  refine wpAnyH_take (i := 7) (v := ?_) rfl (by kernel_rfl) (by kernel_rfl) (by kernel_rfl) (fun _ _ _ h => h) (Or.inl ⟨by rfl, ?_⟩) hHeld ?_
  rotate_left
  · intro wq hSw
    replace hSw : Grew w1 wq := hSw
    go_simp
    try with_reducible rfl
  try simp only [List.getElem_toArray, List.getElem_cons_succ, List.getElem_cons_zero, Act.put, List.setIfInBounds_toArray, List.set_cons_zero, List.set_cons_succ]
  refine wpAnyH_done (by kernel_rfl) ?_ _
  try simp only [List.getElem_toArray, List.getElem_cons_succ, List.getElem_cons_zero, Act.put, List.setIfInBounds_toArray, List.set_cons_zero, List.set_cons_succ]
  go_wp2_with fail
  refine (HCV.out _ _ HC.out).mono ?_
  rintro e w5 ⟨u5, rfl, hb5, g5⟩
  go_wp2_with fail
  refine (HPT.out _ _ hb5).mono ?_
  rintro e w6 ⟨u6, rfl, hb6, g6⟩
  obtain ⟨p6, k6, rfl, _, _⟩ := hb6.shape
  obtain ⟨p7, k7, H7, z1, z2, z3, hrun⟩ := hb6.run_cut (lo := 12) (hi := 12 + slN f) (by omega) (by rw [HLT.out]; omega)
  rw [HLC.out, show 12 + slN f - 12 = slN f by omega] at H7
  have r7 : ∀ w', (Instr.sliceAt 23 (.slice p6 (12 + slN f) k6) (some (.int .i64 12)) none none).run Try.prog w' = .ok (.slice p7 (slN f) k7) w' := fun w' => by
    have := hrun HLT.out.symm .i64 w'
    rw [HLT.out] at this
    rwa [show 12 + slN f - 12 = slN f by omega] at this
  have H7h := Lib.hid H7
  rw [HLT.out]
  clear z1 z2 z3 hrun hb5 hb6 H7
  go_wp2_with fail
  go_ret2
  exact ⟨_, rfl, H7h.out, (G1.trans hHeld).trans (g5.trans g6)⟩
theorem put19_c : PutC := by
  intro v f src dst hsr hdr hx w hv
  have hv' := hv
  obtain ⟨p1, k1, rfl, b1⟩ := hv.shape
  unfold putSGE putSGB
  cases h : okSG f
  · exact (putS_no src dst hx h hv').mono fun _ _ ⟨h1, h2⟩ => ⟨_, h1, Buf.nil _, h2⟩
  · exact putS_yes src dst hsr hdr hx h hv' b1
set_option maxHeartbeats 2000000 in
theorem getS_no {v : Value} (src dst k : Int) (hk : (k != 0) = true) {w : World} (hc : ∀ w', Grew w w' → Calls Try.prog 30 #[v, .int .u32 src, .int .u32 dst] w' fun e w'' => e = .returned (.int .i64 k) ∧ Grew w' w'') :
    Calls Try.prog 10 #[v, .int .u32 src, .int .u32 dst] w fun e w' => ∃ u, e = .returned (.tuple #[u, .int .i64 k]) ∧ Sg w' u zSG ∧ Grew w w' := by
  have HC := Lib.hid hc
  clear hc
  go_enter Try.func10, Try.ntmps10
  go_upto_region 1 with fail
  have hR : Blk (w.alloc (.cells #[.int .i64 0, .int .i64 0, .int .u32 0, .int .u32 0, .int .i64 0, .int .i64 0, .int .i64 0, .slice none 0 0] 25)) w.heap.size #[.int .i64 0, .int .i64 0, .int .u32 0, .int .u32 0, .int .i64 0, .int .i64 0, .int .i64 0, .slice none 0 0] 25 := Blk.new _ _ _ _ rfl
  have g0 : Grew w (w.alloc (.cells #[.int .i64 0, .int .i64 0, .int .u32 0, .int .u32 0, .int .i64 0, .int .i64 0, .int .i64 0, .slice none 0 0] 25)) := (Grew.refl _).alloc _
  generalize (w.alloc (.cells #[.int .i64 0, .int .i64 0, .int .u32 0, .int .u32 0, .int .i64 0, .int .i64 0, .int .i64 0, .slice none 0 0] 25)) = w0 at *
  generalize hlR : w.heap.size = R at *
  go_wp2_with fail
  refine (HC.out _ g0).mono ?_
  rintro e w1 ⟨rfl, g1⟩
  have hR1 := hR.grew g1
  have G1 := g0.trans g1
  have y0 := hR1.cell 0
  have y1 := hR1.cell 1
  have y2 := hR1.cell 2
  have y3 := hR1.cell 3
  have y4 := hR1.cell 4
  have y5 := hR1.cell 5
  have y6 := hR1.cell 6
  have y7 := hR1.cell 7
  have f0 := hR1.free 0
  have f1 := hR1.free 1
  have f2 := hR1.free 2
  have f3 := hR1.free 3
  have f4 := hR1.free 4
  have f5 := hR1.free 5
  have f6 := hR1.free 6
  have f7 := hR1.free 7
  go_wp2_with fail
  have E := ((((((((hR1.set (o := 0) (.int .i64 0)).set (o := 1) (.int .i64 0)).set (o := 2) (.int .u32 0)).set (o := 3) (.int .u32 0)).set (o := 4) (.int .i64 0)).set (o := 5) (.int .i64 0)).set (o := 6) (.int .i64 0)).set (o := 7) (.slice none 0 0))
  have GE := ((((((((G1.setCell (b := R) (o := 0) (by omega) (.int .i64 0)).setCell (b := R) (o := 1) (by omega) (.int .i64 0)).setCell (b := R) (o := 2) (by omega) (.int .u32 0)).setCell (b := R) (o := 3) (by omega) (.int .u32 0)).setCell (b := R) (o := 4) (by omega) (.int .i64 0)).setCell (b := R) (o := 5) (by omega) (.int .i64 0)).setCell (b := R) (o := 6) (by omega) (.int .i64 0)).setCell (b := R) (o := 7) (by omega) (.slice none 0 0))
  have z0 := E.cell 0
  have z1 := E.cell 1
  have z2 := E.cell 2
  have z3 := E.cell 3
  have z4 := E.cell 4
  have z5 := E.cell 5
  have z6 := E.cell 6
  have z7 := E.cell 7
  exact bodyPost_ret (v := .tuple #[.agg #[.int .i64 0, .int .i64 0, .int .u32 0, .int .u32 0, .int .i64 0, .int .i64 0, .int .i64 0, .slice none 0 0], .int .i64 k]) (by simp [results, Try.results10, go_sem, z0, z1, z2, z3, z4, z5, z6, z7]) rfl ⟨_, rfl, Sg.zero _, GE⟩
set_option maxHeartbeats 2000000 in
theorem getS_opt {v : Value} (src dst : Int) {w : World} (hc : ∀ w', Grew w w' → Calls Try.prog 30 #[v, .int .u32 src, .int .u32 dst] w' fun e w'' => e = .returned (.int .i64 0) ∧ Grew w' w'') (ha : ∀ w', Grew w w' → Calls Try.prog 31 #[v] w' fun e w'' => e = .returned (.tuple #[.agg #[.int .i64 0, .int .i64 0, .int .u32 0, .int .u32 0, .int .i64 0, .int .i64 0, .int .i64 0, .int .i64 0], .bool false]) ∧ Grew w' w'') :
    Calls Try.prog 10 #[v, .int .u32 src, .int .u32 dst] w fun e w' => ∃ u, e = .returned (.tuple #[u, .int .i64 161]) ∧ Sg w' u zSG ∧ Grew w w' := by
  have HC := Lib.hid hc
  have HA := Lib.hid ha
  clear hc ha
  go_enter Try.func10, Try.ntmps10
  go_upto_region 1 with fail
  have hR : Blk (w.alloc (.cells #[.int .i64 0, .int .i64 0, .int .u32 0, .int .u32 0, .int .i64 0, .int .i64 0, .int .i64 0, .slice none 0 0] 25)) w.heap.size #[.int .i64 0, .int .i64 0, .int .u32 0, .int .u32 0, .int .i64 0, .int .i64 0, .int .i64 0, .slice none 0 0] 25 := Blk.new _ _ _ _ rfl
  have g0 : Grew w (w.alloc (.cells #[.int .i64 0, .int .i64 0, .int .u32 0, .int .u32 0, .int .i64 0, .int .i64 0, .int .i64 0, .slice none 0 0] 25)) := (Grew.refl _).alloc _
  generalize (w.alloc (.cells #[.int .i64 0, .int .i64 0, .int .u32 0, .int .u32 0, .int .i64 0, .int .i64 0, .int .i64 0, .slice none 0 0] 25)) = w0 at *
  generalize hlR : w.heap.size = R at *
  go_wp2_with fail
  refine (HC.out _ g0).mono ?_
  rintro e w1 ⟨rfl, g1⟩
  have hR1 := hR.grew g1
  have G1 := g0.trans g1
  go_wp2_with fail
  refine (HA.out _ G1).mono ?_
  rintro e w2 ⟨rfl, g2⟩
  have hR2 := hR1.grew g2
  have G2 := G1.trans g2
  go_upto_region 5 with fail
  have hR3 := hR2.alloc (.cells #[.int .i64 0, .int .i64 0, .int .u32 0, .int .u32 0, .int .i64 0, .int .i64 0, .int .i64 0, .int .i64 0] 50)
  have G3 := G2.alloc (.cells #[.int .i64 0, .int .i64 0, .int .u32 0, .int .u32 0, .int .i64 0, .int .i64 0, .int .i64 0, .int .i64 0] 50)
  clear hR hR1 hR2 G1 G2 g0 g1 g2
  generalize (w2.alloc (.cells #[.int .i64 0, .int .i64 0, .int .u32 0, .int .u32 0, .int .i64 0, .int .i64 0, .int .i64 0, .int .i64 0] 50)) = w3 at *
  have y0 := hR3.cell 0
  have y1 := hR3.cell 1
  have y2 := hR3.cell 2
  have y3 := hR3.cell 3
  have y4 := hR3.cell 4
  have y5 := hR3.cell 5
  have y6 := hR3.cell 6
  have y7 := hR3.cell 7
  have f0 := hR3.free 0
  have f1 := hR3.free 1
  have f2 := hR3.free 2
  have f3 := hR3.free 3
  have f4 := hR3.free 4
  have f5 := hR3.free 5
  have f6 := hR3.free 6
  have f7 := hR3.free 7
  go_wp2_with fail
  have E := ((((((((hR3.set (o := 0) (.int .i64 0)).set (o := 1) (.int .i64 0)).set (o := 2) (.int .u32 0)).set (o := 3) (.int .u32 0)).set (o := 4) (.int .i64 0)).set (o := 5) (.int .i64 0)).set (o := 6) (.int .i64 0)).set (o := 7) (.slice none 0 0))
  have GE := ((((((((G3.setCell (b := R) (o := 0) (by omega) (.int .i64 0)).setCell (b := R) (o := 1) (by omega) (.int .i64 0)).setCell (b := R) (o := 2) (by omega) (.int .u32 0)).setCell (b := R) (o := 3) (by omega) (.int .u32 0)).setCell (b := R) (o := 4) (by omega) (.int .i64 0)).setCell (b := R) (o := 5) (by omega) (.int .i64 0)).setCell (b := R) (o := 6) (by omega) (.int .i64 0)).setCell (b := R) (o := 7) (by omega) (.slice none 0 0))
  have z0 := E.cell 0
  have z1 := E.cell 1
  have z2 := E.cell 2
  have z3 := E.cell 3
  have z4 := E.cell 4
  have z5 := E.cell 5
  have z6 := E.cell 6
  have z7 := E.cell 7
  exact bodyPost_ret (v := .tuple #[.agg #[.int .i64 0, .int .i64 0, .int .u32 0, .int .u32 0, .int .i64 0, .int .i64 0, .int .i64 0, .slice none 0 0], .int .i64 161]) (by simp [results, Try.results10, go_sem, z0, z1, z2, z3, z4, z5, z6, z7]) rfl ⟨_, rfl, Sg.zero _, GE⟩
set_option maxHeartbeats 4000000 in
theorem getS_yes (a : Option Addr) (n c N : Nat) (ys : List Int) (s d q aa fl wn m src dst : Int) {w : World} (hl8 : ys.length = n - N) (hl : ys.length ≤ 140737488355328) (a8 : Option Addr) (c8 : Nat) (hb8 : Buf w (.slice a8 (n - N) c8) ys)
    (r8 : ∀ w', (Instr.sliceAt 23 (.slice a n c) (some (.int .i64 (N : Nat))) none none).run Try.prog w' = .ok (.slice a8 (n - N) c8) w')
    (hi : (intI s ∧ intI d ∧ u32I q ∧ u32I aa) ∧ intI fl ∧ intI wn ∧ intI m)
    (hc : ∀ w', Grew w w' → Calls Try.prog 30 #[.slice a n c, .int .u32 src, .int .u32 dst] w' fun e w'' => e = .returned (.int .i64 0) ∧ Grew w' w'') (ha : ∀ w', Grew w w' → Calls Try.prog 31 #[.slice a n c] w' fun e w'' => e = .returned (.tuple #[.agg #[.int .i64 s, .int .i64 d, .int .u32 q, .int .u32 aa, .int .i64 (N : Nat), .int .i64 fl, .int .i64 wn, .int .i64 m], .bool true]) ∧ Grew w' w'') :
    Calls Try.prog 10 #[.slice a n c, .int .u32 src, .int .u32 dst] w fun e w' => ∃ u, e = .returned (.tuple #[u, .int .i64 0]) ∧ Sg w' u ⟨s, d, q, aa, fl, wn, m, ys⟩ ∧ Grew w w' := by
  have HC := Lib.hid hc
  have HA := Lib.hid ha
  have HI := Lib.hid hi
  have HB8 := Lib.hid hb8
  have HL8 := Lib.hid hl
  clear hc ha hi hb8 hl
  go_enter Try.func10, Try.ntmps10
  go_upto_region 1 with fail
  have hR : Blk (w.alloc (.cells #[.int .i64 0, .int .i64 0, .int .u32 0, .int .u32 0, .int .i64 0, .int .i64 0, .int .i64 0, .slice none 0 0] 25)) w.heap.size #[.int .i64 0, .int .i64 0, .int .u32 0, .int .u32 0, .int .i64 0, .int .i64 0, .int .i64 0, .slice none 0 0] 25 := Blk.new _ _ _ _ rfl
  have g0 : Grew w (w.alloc (.cells #[.int .i64 0, .int .i64 0, .int .u32 0, .int .u32 0, .int .i64 0, .int .i64 0, .int .i64 0, .slice none 0 0] 25)) := (Grew.refl _).alloc _
  generalize (w.alloc (.cells #[.int .i64 0, .int .i64 0, .int .u32 0, .int .u32 0, .int .i64 0, .int .i64 0, .int .i64 0, .slice none 0 0] 25)) = w0 at *
  generalize hlR : w.heap.size = R at *
  go_wp2_with fail
  refine (HC.out _ g0).mono ?_
  rintro e w1 ⟨rfl, g1⟩
  have hR1 := hR.grew g1
  have G1 := g0.trans g1
  go_wp2_with fail
  refine (HA.out _ G1).mono ?_
  rintro e w2 ⟨rfl, g2⟩
  have hR2 := hR1.grew g2
  have G2 := G1.trans g2
  go_upto_region 5 with fail
  have hH : Blk (w2.alloc (.cells #[.int .i64 s, .int .i64 d, .int .u32 q, .int .u32 aa, .int .i64 (N : Nat), .int .i64 fl, .int .i64 wn, .int .i64 m] 50)) w2.heap.size #[.int .i64 s, .int .i64 d, .int .u32 q, .int .u32 aa, .int .i64 (N : Nat), .int .i64 fl, .int .i64 wn, .int .i64 m] 50 := Blk.new _ _ _ _ rfl
  have gh : Grew w2 (w2.alloc (.cells #[.int .i64 s, .int .i64 d, .int .u32 q, .int .u32 aa, .int .i64 (N : Nat), .int .i64 fl, .int .i64 wn, .int .i64 m] 50)) := (Grew.refl _).alloc _
  generalize (w2.alloc (.cells #[.int .i64 s, .int .i64 d, .int .u32 q, .int .u32 aa, .int .i64 (N : Nat), .int .i64 fl, .int .i64 wn, .int .i64 m] 50)) = w3 at *
  generalize hlH : w2.heap.size = H at *
  have hRH : H ≠ R := by have := hR2.lt; omega
  have G3 := G2.trans gh
  have HR0 := Lib.hid ((hR2.grew gh).drew)
  clear hR hR1 hR2 G1 G2 gh g0 g1 g2 HC HA
  go_upto_region 7 with fail
  refine wp_region_held_drew (S := fun w' => Grew w w' ∧ Blk w' H #[.int .i64 s, .int .i64 d, .int .u32 q, .int .u32 aa, .int .i64 (N : Nat), .int .i64 fl, .int .i64 wn, .int .i64 m] 50) (by kernel_rfl) (by exact ⟨G3.drew1, hH.drew⟩) (fun hHeld => ?_)
  replace hHeld : Grew w w3.drew ∧ Blk w3.drew H #[.int .i64 s, .int .i64 d, .int .u32 q, .int .u32 aa, .int .i64 (N : Nat), .int .i64 fl, .int .i64 wn, .int .i64 m] 50 := hHeld
  generalize w3.drew = wd3 at *
  refine wpAnyH_take (i := 0) (v := ?_) rfl (by kernel_rfl) (by kernel_rfl) (by kernel_rfl) (fun _ _ _ h => h) (Or.inl ⟨by rfl, ?_⟩) hHeld ?_
  rotate_left
  · intro wq hSw
    replace hSw : Grew w wq ∧ Blk wq H #[.int .i64 s, .int .i64 d, .int .u32 q, .int .u32 aa, .int .i64 (N : Nat), .int .i64 fl, .int .i64 wn, .int .i64 m] 50 := hSw
    have y0 := hSw.2.cell 0
    have y1 := hSw.2.cell 1
    have y2 := hSw.2.cell 2
    have y3 := hSw.2.cell 3
    have y4 := hSw.2.cell 4
    have y5 := hSw.2.cell 5
    have y6 := hSw.2.cell 6
    have y7 := hSw.2.cell 7
    go_simp
    try with_reducible rfl
  try simp only [List.getElem_toArray, List.getElem_cons_succ, List.getElem_cons_zero, Act.put, List.setIfInBounds_toArray, List.set_cons_zero, List.set_cons_succ]
  refine wpAnyH_take (i := 1) (v := ?_) rfl (by kernel_rfl) (by kernel_rfl) (by kernel_rfl) (fun _ _ _ h => h) (Or.inl ⟨by rfl, ?_⟩) hHeld ?_
  rotate_left
  · intro wq hSw
    replace hSw : Grew w wq ∧ Blk wq H #[.int .i64 s, .int .i64 d, .int .u32 q, .int .u32 aa, .int .i64 (N : Nat), .int .i64 fl, .int .i64 wn, .int .i64 m] 50 := hSw
    go_simp
    try with_reducible rfl
  try simp only [List.getElem_toArray, List.getElem_cons_succ, List.getElem_cons_zero, Act.put, List.setIfInBounds_toArray, List.set_cons_zero, List.set_cons_succ]
  refine wpAnyH_take (i := 2) (v := ?_) rfl (by kernel_rfl) (by kernel_rfl) (by kernel_rfl) (fun _ _ _ h => h) (Or.inl ⟨by rfl, ?_⟩) hHeld ?_
  rotate_left
  · intro wq hSw
    replace hSw : Grew w wq ∧ Blk wq H #[.int .i64 s, .int .i64 d, .int .u32 q, .int .u32 aa, .int .i64 (N : Nat), .int .i64 fl, .int .i64 wn, .int .i64 m] 50 := hSw
    go_simp
    try with_reducible rfl
  try simp only [List.getElem_toArray, List.getElem_cons_succ, List.getElem_cons_zero, Act.put, List.setIfInBounds_toArray, List.set_cons_zero, List.set_cons_succ]
  refine wpAnyH_take (i := 3) (v := ?_) rfl (by kernel_rfl) (by kernel_rfl) (by kernel_rfl) (fun _ _ _ h => h) (Or.inl ⟨by rfl, ?_⟩) hHeld ?_
  rotate_left
  · intro wq hSw
    replace hSw : Grew w wq ∧ Blk wq H #[.int .i64 s, .int .i64 d, .int .u32 q, .int .u32 aa, .int .i64 (N : Nat), .int .i64 fl, .int .i64 wn, .int .i64 m] 50 := hSw
    have y4 := hSw.2.cell 4
    go_simp
    try with_reducible rfl
  try simp only [List.getElem_toArray, List.getElem_cons_succ, List.getElem_cons_zero, Act.put, List.setIfInBounds_toArray, List.set_cons_zero, List.set_cons_succ]
  refine wpAnyH_take (i := 4) (v := ?_) rfl (by kernel_rfl) (by kernel_rfl) (by kernel_rfl) (fun _ _ _ h => h) (Or.inl ⟨by rfl, ?_⟩) hHeld ?_
  rotate_left
  · intro wq hSw
    replace hSw : Grew w wq ∧ Blk wq H #[.int .i64 s, .int .i64 d, .int .u32 q, .int .u32 aa, .int .i64 (N : Nat), .int .i64 fl, .int .i64 wn, .int .i64 m] 50 := hSw
    have r := r8
    go_simp
    try with_reducible rfl
  try simp only [List.getElem_toArray, List.getElem_cons_succ, List.getElem_cons_zero, Act.put, List.setIfInBounds_toArray, List.set_cons_zero, List.set_cons_succ]
  refine wpAnyH_ready (rs := [5]) (by kernel_rfl) (by simp) ?_
  refine AllReadyH.cons rfl (fun K hK => ?_) AllReadyH.nil
  go_simp
  refine (cloneB_c HL8.out (HB8.out.grew hHeld.1)).mono ?_
  rintro e wk6 ⟨pa, ca, rfl, hrow, HA2, gk6⟩
  clear hrow
  rw [hl8] at HA2 ⊢
  replace HA2 := Lib.hid HA2
  replace HR0 := Lib.hid (HR0.out.grew gk6)
  refine hK.out _ _ (⟨hHeld.1.trans gk6, hHeld.2.grew gk6⟩) (fun hHeld => ?_)
  clear hK K
  try simp only [List.getElem_toArray, List.getElem_cons_succ, List.getElem_cons_zero, Act.put, List.setIfInBounds_toArray, List.set_cons_zero, List.set_cons_succ]
  refine wpAnyH_ready (rs := [6]) (by kernel_rfl) (by simp) ?_
  refine AllReadyH.cons rfl (fun K hK => ?_) AllReadyH.nil
  go_simp
  refine (segmentS_c _ _ _ _ _ _ _ _ pa (n - N) ca wk6).mono ?_
  rintro e wk7 ⟨rfl, gk7⟩
  replace HR0 := Lib.hid (HR0.out.grew gk7)
  replace HA2 := Lib.hid (HA2.out.grew gk7)
  refine hK.out _ _ (⟨hHeld.1.trans gk7, hHeld.2.grew gk7⟩) (fun hHeld => ?_)
  clear hK K
  try simp only [List.getElem_toArray, List.getElem_cons_succ, List.getElem_cons_zero, Act.put, List.setIfInBounds_toArray, List.set_cons_zero, List.set_cons_succ]
  refine wpAnyH_ready (rs := [7]) (by kernel_rfl) (by simp) ?_
  refine AllReadyH.cons rfl (fun K hK => ?_) AllReadyH.nil
  have hRk := HR0.out
  have x0 := hRk.cell 0
  have x1 := hRk.cell 1
  have x2 := hRk.cell 2
  have x3 := hRk.cell 3
  have x4 := hRk.cell 4
  have x5 := hRk.cell 5
  have x6 := hRk.cell 6
  have x7 := hRk.cell 7
  have q0 := hRk.free 0
  have q1 := hRk.free 1
  have q2 := hRk.free 2
  have q3 := hRk.free 3
  have q4 := hRk.free 4
  have q5 := hRk.free 5
  have q6 := hRk.free 6
  have q7 := hRk.free 7
  go_simp
  have E := Lib.hid ((((((((hRk.set (o := 0) (.int .i64 s)).set (o := 1) (.int .i64 d)).set (o := 2) (.int .u32 q)).set (o := 3) (.int .u32 aa)).set (o := 4) (.int .i64 fl)).set (o := 5) (.int .i64 wn)).set (o := 6) (.int .i64 m)).set (o := 7) (.slice pa (n - N) ca))
  have KK := ((((((((BufsKept.box (o := 0) hRk (by simp [noU8]) (.int .i64 s)).trans (BufsKept.box (o := 1) (hRk.set (o := 0) (.int .i64 s)) (by simp [noU8]) (.int .i64 d))).trans (BufsKept.box (o := 2) ((hRk.set (o := 0) (.int .i64 s)).set (o := 1) (.int .i64 d)) (by simp [noU8]) (.int .u32 q))).trans (BufsKept.box (o := 3) (((hRk.set (o := 0) (.int .i64 s)).set (o := 1) (.int .i64 d)).set (o := 2) (.int .u32 q)) (by simp [noU8]) (.int .u32 aa))).trans (BufsKept.box (o := 4) ((((hRk.set (o := 0) (.int .i64 s)).set (o := 1) (.int .i64 d)).set (o := 2) (.int .u32 q)).set (o := 3) (.int .u32 aa)) (by simp [noU8]) (.int .i64 fl))).trans (BufsKept.box (o := 5) (((((hRk.set (o := 0) (.int .i64 s)).set (o := 1) (.int .i64 d)).set (o := 2) (.int .u32 q)).set (o := 3) (.int .u32 aa)).set (o := 4) (.int .i64 fl)) (by simp [noU8]) (.int .i64 wn))).trans (BufsKept.box (o := 6) ((((((hRk.set (o := 0) (.int .i64 s)).set (o := 1) (.int .i64 d)).set (o := 2) (.int .u32 q)).set (o := 3) (.int .u32 aa)).set (o := 4) (.int .i64 fl)).set (o := 5) (.int .i64 wn)) (by simp [noU8]) (.int .i64 m))).trans (BufsKept.box (o := 7) (((((((hRk.set (o := 0) (.int .i64 s)).set (o := 1) (.int .i64 d)).set (o := 2) (.int .u32 q)).set (o := 3) (.int .u32 aa)).set (o := 4) (.int .i64 fl)).set (o := 5) (.int .i64 wn)).set (o := 6) (.int .i64 m)) (by simp [noU8]) (.slice pa (n - N) ca)))
  have GE := ((((((((hHeld.1.setCell (b := R) (o := 0) (by omega) (.int .i64 s)).setCell (b := R) (o := 1) (by omega) (.int .i64 d)).setCell (b := R) (o := 2) (by omega) (.int .u32 q)).setCell (b := R) (o := 3) (by omega) (.int .u32 aa)).setCell (b := R) (o := 4) (by omega) (.int .i64 fl)).setCell (b := R) (o := 5) (by omega) (.int .i64 wn)).setCell (b := R) (o := 6) (by omega) (.int .i64 m)).setCell (b := R) (o := 7) (by omega) (.slice pa (n - N) ca))
  replace HA2 := Lib.hid (KK _ _ HA2.out)
  refine hK.out _ _ (⟨GE, ((((((((hHeld.2.other (c := R) (o := 0) hRH (.int .i64 s)).other (c := R) (o := 1) hRH (.int .i64 d)).other (c := R) (o := 2) hRH (.int .u32 q)).other (c := R) (o := 3) hRH (.int .u32 aa)).other (c := R) (o := 4) hRH (.int .i64 fl)).other (c := R) (o := 5) hRH (.int .i64 wn)).other (c := R) (o := 6) hRH (.int .i64 m)).other (c := R) (o := 7) hRH (.slice pa (n - N) ca))⟩) (fun hHeld => ?_)
  clear hK K
  try simp only [List.getElem_toArray, List.getElem_cons_succ, List.getElem_cons_zero, Act.put, List.setIfInBounds_toArray, List.set_cons_zero, List.set_cons_succ]
  refine wpAnyH_take (i := 8) (v := ?_) rfl (by kernel_rfl) (by kernel_rfl) (by kernel_rfl) (fun _ _ _ h => h) (Or.inl ⟨by rfl, ?_⟩) hHeld ?_
  rotate_left
  · intro wq hSw
    replace hSw : Grew w wq ∧ Blk wq H #[.int .i64 s, .int .i64 d, .int .u32 q, .int .u32 aa, .int .i64 (N : Nat), .int .i64 fl, .int .i64 wn, .int .i64 m] 50 := hSw
    go_simp
    try with_reducible rfl
  try simp only [List.getElem_toArray, List.getElem_cons_succ, List.getElem_cons_zero, Act.put, List.setIfInBounds_toArray, List.set_cons_zero, List.set_cons_succ]
  refine wpAnyH_done (by kernel_rfl) ?_ _
  try simp only [List.getElem_toArray, List.getElem_cons_succ, List.getElem_cons_zero, Act.put, List.setIfInBounds_toArray, List.set_cons_zero, List.set_cons_succ]
  have EB := E.out
  have z0 := EB.cell 0
  have z1 := EB.cell 1
  have z2 := EB.cell 2
  have z3 := EB.cell 3
  have z4 := EB.cell 4
  have z5 := EB.cell 5
  have z6 := EB.cell 6
  have z7 := EB.cell 7
  go_wp2_with fail
  have hfr := Sg.of HA2.out HI.out.1.1 HI.out.1.2.1 HI.out.1.2.2.1 HI.out.1.2.2.2 HI.out.2.1 HI.out.2.2.1 HI.out.2.2.2
  exact bodyPost_ret (v := .tuple #[.agg #[.int .i64 s, .int .i64 d, .int .u32 q, .int .u32 aa, .int .i64 fl, .int .i64 wn, .int .i64 m, .slice pa (n - N) ca], .int .i64 0]) (by simp [results, Try.results10, go_sem, z0, z1, z2, z3, z4, z5, z6, z7]) rfl ⟨_, rfl, hfr, hHeld.1⟩
theorem get19_c : GetC := by
  intro v xs src dst hsr hdr w hl hb
  have hc := fun w' (g : Grew w w') => checkS_c src dst hsr hdr (hb.grew g)
  have hq := hb
  obtain ⟨a, c, rfl, _, _⟩ := hb.shape
  have hk := getSGE_ck xs src dst
  by_cases k0 : ckE xs src dst = 0
  · rw [if_neg (fun h => h k0)] at hk
    rw [k0] at hc
    have hs : 20 ≤ xs.length ∧ xs.length ≤ 65535 ∧ 20 ≤ hoSG xs ∧ hoSG xs ≤ xs.length := by
      unfold ckE at k0
      repeat' split at k0
      all_goals omega
    obtain ⟨s1, s2, s3, s4⟩ := hs
    cases hm : (mssV (cutL xs 20 (hoSG xs))).2
    · rw [if_pos hm] at hk
      have hp : getSG xs src dst = zSG := by unfold getSG; rw [hk]; rfl
      rw [hk, hp]
      exact getS_opt src dst hc (fun w' g => headAt_no s3 s4 hm (hq.grew g))
    · rw [if_neg (by rw [hm]; simp)] at hk
      have hp : getSG xs src dst = sgOf xs := by unfold getSG; rw [if_pos hk]
      rw [hk, hp]
      obtain ⟨a8, c8, H8, z1, z2, z3, hrun⟩ := hq.run_cut (lo := hoSG xs) (hi := xs.length) s4 (Nat.le_refl _)
      have g2 : ∀ lo hi, hi = lo + 2 → hi ≤ xs.length → 0 ≤ getV (cutL xs lo hi) true ∧ getV (cutL xs lo hi) true < 65536 := fun lo hi e h => by
        have := getG_lt (hq.ok.cut lo hi) true (n := 2) (by rw [cutL_length (by omega) h]; omega) (by omega)
        rwa [show (2 : Int) ^ (8 * 2) = 65536 by decide] at this
      have g4 : ∀ lo hi, hi = lo + 4 → hi ≤ xs.length → 0 ≤ getV (cutL xs lo hi) true ∧ getV (cutL xs lo hi) true < 4294967296 := fun lo hi e h => by
        have := getG_lt (hq.ok.cut lo hi) true (n := 4) (by rw [cutL_length (by omega) h]; omega) (by omega)
        rwa [show (2 : Int) ^ (8 * 4) = 4294967296 by decide] at this
      have ms := mssV_lt (hq.ok.cut 20 (hoSG xs))
      have c1 := g2 0 2 rfl (by omega)
      have c2 := g2 2 4 rfl (by omega)
      have c3 := g4 4 8 rfl (by omega)
      have c4 := g4 8 12 rfl (by omega)
      have c5 := g2 14 16 rfl (by omega)
      have c6 := hq.ok.getD 13
      exact getS_yes a _ c (hoSG xs) (cutL xs (hoSG xs) xs.length) _ _ _ _ _ _ _ src dst (by rw [cutL_length s4 (Nat.le_refl _)]) (by rw [cutL_length s4 (Nat.le_refl _)]; omega) a8 c8 H8 (hrun rfl .i64) (by unfold intI u32I; omega) hc (fun w' g => headAt_yes s3 s4 hm (hq.grew g))
  · rw [if_pos k0] at hk
    have hp : getSG xs src dst = zSG := by unfold getSG; rw [hk, if_neg k0]
    rw [hk, hp]
    exact getS_no src dst _ (by simpa using k0) hc
end Go.Proofs.Ytiaejlbkdgcfiaa
