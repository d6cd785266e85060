/-
  Contracts of the document's own pages: Translate, its loop.
-/
import Derived.Test.YtocmningcpcmiaaSvD
import Derived.WalkKit
import Derived.Outline
import Derived.Handy
import Derived.LoopTactic
import Derived.Deep.QuietTactic
import Derived.BigQuiet
import Derived.Deep.DeepCutAuto
set_option linter.unusedVariables false
set_option linter.unusedSimpArgs false
namespace Go.Proofs.Ytocmningcpcmiaa
open Go.RowKit

set_option maxRecDepth 100000 in
set_option maxHeartbeats 8000000 in
theorem refTrans_l {a : Option Addr} {n c : Nat} {xs : List Int} (satp status priv x kind : Int) (S : Sv) (hp : priv < 3) (hs0 : 0 ≤ satp) (hs1 : satp < 18446744073709551616) (ht0 : 0 ≤ status) (ht1 : status < 18446744073709551616) (hx0 : 0 ≤ x) (hx1 : x < 18446744073709551616)
    (hm : (fieldV satp 63 60 != 8) = false) (hx : (sextV x 39 != x) = false) (hS : svGo xs status priv x kind 3 (fieldV satp 43 0 * 4096) = S) (w : World) (hb : Buf w (.slice a n c) xs) (hl : xs.length ≤ 140737488355328) :
    Calls Try.prog 10 #[.agg #[.slice a n c], .int .u64 satp, .int .u64 status, .int .i64 priv, .int .u64 x, .int .i64 kind] w (SvEnds S w) := by
  have HB := Lib.hid hb
  have HS := Lib.hid hS
  obtain ⟨ht2, ht3⟩ := table_lt satp 43 0 (by omega) (by omega) (by omega) (by decide)
  clear hb hS
  go_enter Try.func10, Try.ntmps10
  go_upto_region 1 with fail
  have hB0 : Blk ((w.alloc (.cells #[.slice a n c] 24)).alloc (.cells #[.slice none 0 0] 24)) w.heap.size #[.slice a n c] 24 := (Blk.new _ _ _ _ rfl).alloc _
  have hR0 : Blk ((w.alloc (.cells #[.slice a n c] 24)).alloc (.cells #[.slice none 0 0] 24)) (w.heap.size + 1) #[.slice none 0 0] 24 := Blk.new _ _ _ _ (by simp)
  have g0 : Grew w ((w.alloc (.cells #[.slice a n c] 24)).alloc (.cells #[.slice none 0 0] 24)) := ((Grew.refl w).alloc _).alloc _
  generalize ((w.alloc (.cells #[.slice a n c] 24)).alloc (.cells #[.slice none 0 0] 24)) = w0 at *
  go_upto_region 6 with (first | (go_at_call 30; refine (ref8f_c _ _ _ (by assumption) (by assumption) _).mono ?_; rintro e' w' ⟨rfl, rfl⟩) | (go_at_call 31; refine (refSext_c _ _ (by assumption) (by assumption) _).mono ?_; rintro e' w' ⟨rfl, h'⟩; obtain rfl := h'.symm))
  go_wp2_with fail
  go_loopw [16, 17] (fun t i wr => ∃ (k : Nat) (tb : Int), k ≤ 3 ∧ i = .int .i64 ((k : Int) - 1) ∧ t = .int .u64 tb ∧ 0 ≤ tb ∧ tb < 72057594037927936 ∧ Hid (svGo xs status priv x kind k tb = S) ∧ Grew w0 wr) (fun _ i _ => (intOf i + 1).toNat)
  case atStart => exact ⟨3, _, by omega, rfl, rfl, by omega, by omega, HS.out, Grew.refl w0⟩
  case round =>
    obtain ⟨k, tb, hk, rfl, rfl, t0, t1, hv, gr⟩ := hrel
    have hBr := hB0.grew gr
    have hRr := hR0.grew gr
    have G := g0.trans gr
    clear hB0 hR0 g0
    rcases k with _ | l
    · rw [show ((0 : Nat) : Int) - 1 = -1 from rfl]
      go_upto_region 26 with (go_at_call 30; refine (ref8f_c _ _ _ (by assumption) (by assumption) _).mono ?_; rintro e' w' ⟨rfl, rfl⟩)
      have yB : ∀ z : Over wr, z.w.cell? ⟨w.heap.size, 0, none⟩ = some (.slice a n c) := fun z => (hBr).overCell 0 _ rfl z
      refine region_over_tail 4 (by kernel_rfl) (by kernel_rfl) ?_
      simp only [List.take_succ_cons, List.take_zero, List.drop_succ_cons, List.drop_zero]
      repeat (first | go_big_quiet_step ((go_at_call 13; exact over_same (ref8Fault_c _ _ _))) | quiet_step ((go_at_call 13; exact over_same (ref8Fault_c _ _ _))))
      refine wpQuiet_nil ?_
      intro z
      have gz := (G).trans z.g
      have hRz := (hRr).over z
      generalize z.w = w9 at *
      clear yB z
      have cR := hRz.cell 0
      have fR := hRz.free 0
      go_wp2_with fail
      have hset := (hRz.set (o := 0) (.slice a n c)).cell 0
      have hend := SvEnds.of (show noV xs kind true = S from hv.out) (SvEnds.mk (s := noV xs kind true) ((HB.out.grew gz).store hRz (.slice a n c)) (gz.setCell (Nat.le_succ _) (.slice a n c)))
      exact bodyPost_ret (v := .tuple #[.int .u64 0, .agg #[.slice a n c], .int .i64 (faultV kind true), .bool false]) (by simp [results, Try.results10, go_sem, hset]) rfl hend
    · rw [show ((l + 1 : Nat) : Int) - 1 = (l : Int) by omega]
      have hl2 : l ≤ 2 := by omega
      have l1 : (0 : Int) ≤ (l : Int) := by omega
      have l2 : (l : Int) ≤ 2 := by omega
      have hq := fieldV_small x (20 + 9 * l) (12 + 9 * l) 9 (by omega) (by omega) (by omega) (by omega)
      rw [show (2 : Int) ^ 9 = 512 by decide] at hq
      obtain ⟨q0, q1⟩ := hq
      obtain ⟨p0, p1⟩ := entP_lt tb x l hl2 t0 t1
      have hv' := hv.out
      simp only [svGo] at hv'
      have heP : entP tb x l = tb + 8 * fieldV x (20 + 9 * l) (12 + 9 * l) := rfl
      rw [heP] at hv' p0 p1
      have HV := Lib.hid hv'
      clear hv hv' heP
      go_upto_region 10 with (go_at_call 30; refine (ref8f_c _ _ _ (by assumption) (by assumption) _).mono ?_; rintro e' w' ⟨rfl, rfl⟩)
      generalize tb + 8 * fieldV x (20 + 9 * (l : Int)) (12 + 9 * (l : Int)) = P at *
      clear q0 q1
      have hread := fun w' (h : Grew wr w') => refRead_c P 8 p0 (by omega) (by omega) (by omega) w' ((HB.out.grew G).grew h) hl
      rw [show sizeV 8 = true from rfl, Bool.true_and] at hread
      have he := readV_lt HB.out.ok P 8
      generalize readV xs P 8 = e at *
      obtain ⟨e0, e1⟩ := he
      have HRD := Lib.hid hread
      clear hread
      have cB := hBr.cell 0
      cases hin : insideV xs.length P 8
      · rw [hin] at HRD
        go_wp2_with fail
        refine (HRD.out _ (Grew.refl wr)).mono ?_
        rintro e' w1 ⟨rfl, g1⟩
        have hB1 := hBr.grew g1
        have hR1 := hRr.grew g1
        have G1 := G.trans g1
        clear cB
        have HE := Lib.hid (show noV xs kind false = S from by have := HV.out; simpa [badE, leafE, noneE, hin] using this)
        clear HV
        go_upto_region 12 with (go_at_call 30; refine (ref8f_c _ _ _ (by assumption) (by assumption) _).mono ?_; rintro e' w' ⟨rfl, rfl⟩)
        have yB : ∀ z : Over w1, z.w.cell? ⟨w.heap.size, 0, none⟩ = some (.slice a n c) := fun z => (hB1).overCell 0 _ rfl z
        refine region_over_tail 4 (by kernel_rfl) (by kernel_rfl) ?_
        simp only [List.take_succ_cons, List.take_zero, List.drop_succ_cons, List.drop_zero]
        repeat (first | go_big_quiet_step ((go_at_call 13; exact over_same (ref8Fault_c _ _ _))) | quiet_step ((go_at_call 13; exact over_same (ref8Fault_c _ _ _))))
        refine wpQuiet_nil ?_
        intro z
        have gz := (G1).trans z.g
        have hRz := (hR1).over z
        generalize z.w = w9 at *
        clear yB z
        have cR := hRz.cell 0
        have fR := hRz.free 0
        go_wp2_with fail
        have hset := (hRz.set (o := 0) (.slice a n c)).cell 0
        have hend := SvEnds.of (show noV xs kind false = S from HE.out) (SvEnds.mk (s := noV xs kind false) ((HB.out.grew gz).store hRz (.slice a n c)) (gz.setCell (Nat.le_succ _) (.slice a n c)))
        exact bodyPost_ret (v := .tuple #[.int .u64 0, .agg #[.slice a n c], .int .i64 (faultV kind false), .bool false]) (by simp [results, Try.results10, go_sem, hset]) rfl hend
      · rw [hin] at HRD
        go_wp2_with fail
        refine (HRD.out _ (Grew.refl wr)).mono ?_
        rintro e' w1 ⟨rfl, g1⟩
        have hB1 := hBr.grew g1
        have hR1 := hRr.grew g1
        have G1 := G.trans g1
        clear cB
        cases b1 : (fieldV e 0 0 == 0)
        · cases b2 : (fieldV e 2 1 == 2)
          · cases b3 : (fieldV e 63 54 != 0)
            · cases c1 : (fieldV e 1 1 == 1)
              · cases c2 : (fieldV e 3 3 == 1)
                · cases d1 : (fieldV e 4 4 == 1)
                  · cases d2 : (fieldV e 7 6 != 0)
                    · have HE := Lib.hid (show svGo xs status priv x kind l (fieldV e 53 10 * 4096) = S from by have := HV.out; simpa [badE, leafE, noneE, hin, b1, b2, b3, c1, c2, d1, d2] using this)
                      clear HV
                      obtain ⟨f0, f1⟩ := table_lt e 53 10 (by omega) (by omega) (by omega) (by decide)
                      go_wp2_with (go_at_call 30; refine (ref8f_c _ _ _ (by assumption) (by assumption) _).mono ?_; rintro e' w' ⟨rfl, rfl⟩)
                      go_roundw
                      case rel => exact ⟨l, _, by omega, rfl, rfl, by omega, by omega, HE.out, gr.trans g1⟩
                      case measure => first | (simp [intOf]; done) | (simp [intOf]; omega)
                    · have HE := Lib.hid (show noV xs kind true = S from by have := HV.out; simpa [badE, leafE, noneE, hin, b1, b2, b3, c1, c2, d1, d2] using this)
                      clear HV
                      go_upto_region 24 with (go_at_call 30; refine (ref8f_c _ _ _ (by assumption) (by assumption) _).mono ?_; rintro e' w' ⟨rfl, rfl⟩)
                      have yB : ∀ z : Over w1, z.w.cell? ⟨w.heap.size, 0, none⟩ = some (.slice a n c) := fun z => (hB1).overCell 0 _ rfl z
                      refine region_over_tail 4 (by kernel_rfl) (by kernel_rfl) ?_
                      simp only [List.take_succ_cons, List.take_zero, List.drop_succ_cons, List.drop_zero]
                      repeat (first | go_big_quiet_step ((go_at_call 13; exact over_same (ref8Fault_c _ _ _))) | quiet_step ((go_at_call 13; exact over_same (ref8Fault_c _ _ _))))
                      refine wpQuiet_nil ?_
                      intro z
                      have gz := (G1).trans z.g
                      have hRz := (hR1).over z
                      generalize z.w = w9 at *
                      clear yB z
                      have cR := hRz.cell 0
                      have fR := hRz.free 0
                      go_wp2_with fail
                      have hset := (hRz.set (o := 0) (.slice a n c)).cell 0
                      have hend := SvEnds.of (show noV xs kind true = S from HE.out) (SvEnds.mk (s := noV xs kind true) ((HB.out.grew gz).store hRz (.slice a n c)) (gz.setCell (Nat.le_succ _) (.slice a n c)))
                      exact bodyPost_ret (v := .tuple #[.int .u64 0, .agg #[.slice a n c], .int .i64 (faultV kind true), .bool false]) (by simp [results, Try.results10, go_sem, hset]) rfl hend
                  · have HE := Lib.hid (show noV xs kind true = S from by have := HV.out; simpa [badE, leafE, noneE, hin, b1, b2, b3, c1, c2, d1] using this)
                    clear HV
                    go_upto_region 24 with (go_at_call 30; refine (ref8f_c _ _ _ (by assumption) (by assumption) _).mono ?_; rintro e' w' ⟨rfl, rfl⟩)
                    have yB : ∀ z : Over w1, z.w.cell? ⟨w.heap.size, 0, none⟩ = some (.slice a n c) := fun z => (hB1).overCell 0 _ rfl z
                    refine region_over_tail 4 (by kernel_rfl) (by kernel_rfl) ?_
                    simp only [List.take_succ_cons, List.take_zero, List.drop_succ_cons, List.drop_zero]
                    repeat (first | go_big_quiet_step ((go_at_call 13; exact over_same (ref8Fault_c _ _ _))) | quiet_step ((go_at_call 13; exact over_same (ref8Fault_c _ _ _))))
                    refine wpQuiet_nil ?_
                    intro z
                    have gz := (G1).trans z.g
                    have hRz := (hR1).over z
                    generalize z.w = w9 at *
                    clear yB z
                    have cR := hRz.cell 0
                    have fR := hRz.free 0
                    go_wp2_with fail
                    have hset := (hRz.set (o := 0) (.slice a n c)).cell 0
                    have hend := SvEnds.of (show noV xs kind true = S from HE.out) (SvEnds.mk (s := noV xs kind true) ((HB.out.grew gz).store hRz (.slice a n c)) (gz.setCell (Nat.le_succ _) (.slice a n c)))
                    exact bodyPost_ret (v := .tuple #[.int .u64 0, .agg #[.slice a n c], .int .i64 (faultV kind true), .bool false]) (by simp [results, Try.results10, go_sem, hset]) rfl hend
                · go_upto_region 16 with (go_at_call 30; refine (ref8f_c _ _ _ (by assumption) (by assumption) _).mono ?_; rintro e' w' ⟨rfl, rfl⟩)
                  go_wp2_with fail
                  refine (ref8allow_c _ _ _ _ _ hl2 ⟨by assumption, by assumption⟩ ⟨by assumption, by assumption⟩ _).mono ?_
                  rintro e' w' ⟨rfl, h'⟩
                  obtain rfl := h'
                  cases al : allowV e status priv kind l
                  · have HE := Lib.hid (show noV xs kind true = S from by have := HV.out; simpa [badE, leafE, noneE, hin, b1, b2, b3, c1, c2, al] using this)
                    clear HV
                    go_upto_region 17 with (go_at_call 30; refine (ref8f_c _ _ _ (by assumption) (by assumption) _).mono ?_; rintro e' w' ⟨rfl, rfl⟩)
                    have yB : ∀ z : Over w1, z.w.cell? ⟨w.heap.size, 0, none⟩ = some (.slice a n c) := fun z => (hB1).overCell 0 _ rfl z
                    refine region_over_tail 4 (by kernel_rfl) (by kernel_rfl) ?_
                    simp only [List.take_succ_cons, List.take_zero, List.drop_succ_cons, List.drop_zero]
                    repeat (first | go_big_quiet_step ((go_at_call 13; exact over_same (ref8Fault_c _ _ _))) | quiet_step ((go_at_call 13; exact over_same (ref8Fault_c _ _ _))))
                    refine wpQuiet_nil ?_
                    intro z
                    have gz := (G1).trans z.g
                    have hRz := (hR1).over z
                    generalize z.w = w9 at *
                    clear yB z
                    have cR := hRz.cell 0
                    have fR := hRz.free 0
                    go_wp2_with fail
                    have hset := (hRz.set (o := 0) (.slice a n c)).cell 0
                    have hend := SvEnds.of (show noV xs kind true = S from HE.out) (SvEnds.mk (s := noV xs kind true) ((HB.out.grew gz).store hRz (.slice a n c)) (gz.setCell (Nat.le_succ _) (.slice a n c)))
                    exact bodyPost_ret (v := .tuple #[.int .u64 0, .agg #[.slice a n c], .int .i64 (faultV kind true), .bool false]) (by simp [results, Try.results10, go_sem, hset]) rfl hend
                  · have HE := Lib.hid (show (⟨fieldV (markE e kind) 53 10 * 4096 + fieldV x (11 + 9 * l) 0, writeV xs P 8 (markE e kind), 0, true⟩ : Sv) = S from by have := HV.out; simpa [badE, leafE, noneE, hin, b1, b2, b3, c1, c2, al] using this)
                    clear HV
                    by_cases k2 : kind = 2
                    · subst k2
                      have hmk : bits .or .u64 (bits .or .u64 e 64) 128 = markE e 2 := by unfold markE; rw [if_pos rfl]
                      go_upto_region 21 with fail
                      have hml := markE_lt e 2 ⟨e0, e1⟩
                      generalize hee : markE e 2 = ee at *
                      clear hee hmk
                      obtain ⟨m0, m1⟩ := hml
                      have cB1 := hB1.cell 0
                      go_wp2_with fail
                      refine (refWrite_c P 8 ee p0 (by omega) m0 m1 _ (HB.out.grew G1) hl).mono ?_
                      rintro e' w2 ⟨r, rfl, hr2, g2⟩
                      obtain ⟨ra, rn, rc, re⟩ : ∃ a n c, r = .slice a n c := (let ⟨a, c, e, _⟩ := hr2.shape; ⟨a, _, c, e⟩)
                      subst re
                      have hR2 := hR1.grew g2
                      have G2 := G1.trans g2
                      clear cB1
                      go_upto_region 22 with fail
                      have hT3 : Blk (w2.alloc (.cells #[.slice ra rn rc] 24)) w2.heap.size #[.slice ra rn rc] 24 := Blk.new _ _ _ _ rfl
                      have hR3 : Blk (w2.alloc (.cells #[.slice ra rn rc] 24)) (w.heap.size + 1) #[.slice none 0 0] 24 := hR2.alloc _
                      have G3 : Grew w (w2.alloc (.cells #[.slice ra rn rc] 24)) := G2.alloc _
                      have hr3 := Lib.hid (takes_box hr2 #[.slice ra rn rc] 24)
                      clear hr2
                      generalize (w2.alloc (.cells #[.slice ra rn rc] 24)) = w3 at *
                      generalize w2.heap.size = T at *
                      obtain ⟨f0, f1⟩ := table_lt ee 53 10 (by omega) (by omega) (by omega) (by decide)
                      have hlow : 0 ≤ fieldV x (11 + 9 * (l : Int)) 0 ∧ fieldV x (11 + 9 * (l : Int)) 0 < 1073741824 := by
                        have h := fieldV_small x (11 + 9 * (l : Int)) 0 (12 + 9 * l) (by omega) (by omega) (by omega) (by omega)
                        have h2 := pow_le_pow' (m := 12 + 9 * l) (n := 30) (by omega)
                        rw [show (2 : Int) ^ 30 = 1073741824 by decide] at h2
                        omega
                      obtain ⟨f2, f3⟩ := hlow
                      have s1 : IntKind.i64.wrap (9 * (l : Int)) = 9 * (l : Int) := IntWalk.i64_in _ (by omega)
                      have s2 : IntKind.i64.wrap (11 + 9 * (l : Int)) = 11 + 9 * (l : Int) := IntWalk.i64_in _ (by omega)
                      have s3 : IntKind.u64.wrap (fieldV ee 53 10 * 4096) = fieldV ee 53 10 * 4096 := IntWalk.u64_in _ (by omega)
                      have s4 : IntKind.u64.wrap (fieldV ee 53 10 * 4096 + fieldV x (11 + 9 * (l : Int)) 0) = fieldV ee 53 10 * 4096 + fieldV x (11 + 9 * (l : Int)) 0 := IntWalk.u64_in _ (by omega)
                      have yT : ∀ z : Over w3, z.w.cell? ⟨T, 0, none⟩ = some (.slice ra rn rc) := fun z => hT3.overCell 0 _ rfl z
                      refine region_over_tail 11 (by kernel_rfl) (by kernel_rfl) ?_
                      simp only [List.take_succ_cons, List.take_zero, List.drop_succ_cons, List.drop_zero]
                      repeat (first | go_big_quiet_step ((go_at_call 30; exact over_same (ref8f_c _ _ _ (by assumption) (by assumption) _))) | quiet_step ((go_at_call 30; exact over_same (ref8f_c _ _ _ (by assumption) (by assumption) _))))
                      refine wpQuiet_nil ?_
                      intro z
                      have gz := G3.trans z.g
                      have hRz := hR3.over z
                      have hrz := hr3.out.grew z.g
                      generalize z.w = w9 at *
                      clear yT z
                      have cR := hRz.cell 0
                      have fR := hRz.free 0
                      go_wp2_with fail
                      have hset := (hRz.set (o := 0) (.slice ra rn rc)).cell 0
                      have hend := SvEnds.of HE.out (SvEnds.mk (s := ⟨fieldV ee 53 10 * 4096 + fieldV x (11 + 9 * l) 0, writeV xs P 8 ee, 0, true⟩) (hrz.store hRz (.slice ra rn rc)) (gz.setCell (Nat.le_succ _) (.slice ra rn rc)))
                      exact bodyPost_ret (v := .tuple #[.int .u64 (fieldV ee 53 10 * 4096 + fieldV x (11 + 9 * (l : Int)) 0), .agg #[.slice ra rn rc], .int .i64 0, .bool true]) (by simp [results, Try.results10, go_sem, hset]) rfl hend
                    · have k2' : (kind == 2) = false := by simpa using k2
                      have hmk : bits .or .u64 e 64 = markE e kind := by unfold markE; rw [if_neg k2]
                      clear k2
                      go_upto_region 21 with fail
                      have hml := markE_lt e kind ⟨e0, e1⟩
                      generalize hee : markE e kind = ee at *
                      clear hee hmk
                      obtain ⟨m0, m1⟩ := hml
                      have cB1 := hB1.cell 0
                      go_wp2_with fail
                      refine (refWrite_c P 8 ee p0 (by omega) m0 m1 _ (HB.out.grew G1) hl).mono ?_
                      rintro e' w2 ⟨r, rfl, hr2, g2⟩
                      obtain ⟨ra, rn, rc, re⟩ : ∃ a n c, r = .slice a n c := (let ⟨a, c, e, _⟩ := hr2.shape; ⟨a, _, c, e⟩)
                      subst re
                      have hR2 := hR1.grew g2
                      have G2 := G1.trans g2
                      clear cB1
                      go_upto_region 22 with fail
                      have hT3 : Blk (w2.alloc (.cells #[.slice ra rn rc] 24)) w2.heap.size #[.slice ra rn rc] 24 := Blk.new _ _ _ _ rfl
                      have hR3 : Blk (w2.alloc (.cells #[.slice ra rn rc] 24)) (w.heap.size + 1) #[.slice none 0 0] 24 := hR2.alloc _
                      have G3 : Grew w (w2.alloc (.cells #[.slice ra rn rc] 24)) := G2.alloc _
                      have hr3 := Lib.hid (takes_box hr2 #[.slice ra rn rc] 24)
                      clear hr2
                      generalize (w2.alloc (.cells #[.slice ra rn rc] 24)) = w3 at *
                      generalize w2.heap.size = T at *
                      obtain ⟨f0, f1⟩ := table_lt ee 53 10 (by omega) (by omega) (by omega) (by decide)
                      have hlow : 0 ≤ fieldV x (11 + 9 * (l : Int)) 0 ∧ fieldV x (11 + 9 * (l : Int)) 0 < 1073741824 := by
                        have h := fieldV_small x (11 + 9 * (l : Int)) 0 (12 + 9 * l) (by omega) (by omega) (by omega) (by omega)
                        have h2 := pow_le_pow' (m := 12 + 9 * l) (n := 30) (by omega)
                        rw [show (2 : Int) ^ 30 = 1073741824 by decide] at h2
                        omega
                      obtain ⟨f2, f3⟩ := hlow
                      have s1 : IntKind.i64.wrap (9 * (l : Int)) = 9 * (l : Int) := IntWalk.i64_in _ (by omega)
                      have s2 : IntKind.i64.wrap (11 + 9 * (l : Int)) = 11 + 9 * (l : Int) := IntWalk.i64_in _ (by omega)
                      have s3 : IntKind.u64.wrap (fieldV ee 53 10 * 4096) = fieldV ee 53 10 * 4096 := IntWalk.u64_in _ (by omega)
                      have s4 : IntKind.u64.wrap (fieldV ee 53 10 * 4096 + fieldV x (11 + 9 * (l : Int)) 0) = fieldV ee 53 10 * 4096 + fieldV x (11 + 9 * (l : Int)) 0 := IntWalk.u64_in _ (by omega)
                      have yT : ∀ z : Over w3, z.w.cell? ⟨T, 0, none⟩ = some (.slice ra rn rc) := fun z => hT3.overCell 0 _ rfl z
                      refine region_over_tail 11 (by kernel_rfl) (by kernel_rfl) ?_
                      simp only [List.take_succ_cons, List.take_zero, List.drop_succ_cons, List.drop_zero]
                      repeat (first | go_big_quiet_step ((go_at_call 30; exact over_same (ref8f_c _ _ _ (by assumption) (by assumption) _))) | quiet_step ((go_at_call 30; exact over_same (ref8f_c _ _ _ (by assumption) (by assumption) _))))
                      refine wpQuiet_nil ?_
                      intro z
                      have gz := G3.trans z.g
                      have hRz := hR3.over z
                      have hrz := hr3.out.grew z.g
                      generalize z.w = w9 at *
                      clear yT z
                      have cR := hRz.cell 0
                      have fR := hRz.free 0
                      go_wp2_with fail
                      have hset := (hRz.set (o := 0) (.slice ra rn rc)).cell 0
                      have hend := SvEnds.of HE.out (SvEnds.mk (s := ⟨fieldV ee 53 10 * 4096 + fieldV x (11 + 9 * l) 0, writeV xs P 8 ee, 0, true⟩) (hrz.store hRz (.slice ra rn rc)) (gz.setCell (Nat.le_succ _) (.slice ra rn rc)))
                      exact bodyPost_ret (v := .tuple #[.int .u64 (fieldV ee 53 10 * 4096 + fieldV x (11 + 9 * (l : Int)) 0), .agg #[.slice ra rn rc], .int .i64 0, .bool true]) (by simp [results, Try.results10, go_sem, hset]) rfl hend
              · go_upto_region 16 with (go_at_call 30; refine (ref8f_c _ _ _ (by assumption) (by assumption) _).mono ?_; rintro e' w' ⟨rfl, rfl⟩)
                go_wp2_with fail
                refine (ref8allow_c _ _ _ _ _ hl2 ⟨by assumption, by assumption⟩ ⟨by assumption, by assumption⟩ _).mono ?_
                rintro e' w' ⟨rfl, h'⟩
                obtain rfl := h'
                cases al : allowV e status priv kind l
                · have HE := Lib.hid (show noV xs kind true = S from by have := HV.out; simpa [badE, leafE, noneE, hin, b1, b2, b3, c1, al] using this)
                  clear HV
                  go_upto_region 17 with (go_at_call 30; refine (ref8f_c _ _ _ (by assumption) (by assumption) _).mono ?_; rintro e' w' ⟨rfl, rfl⟩)
                  have yB : ∀ z : Over w1, z.w.cell? ⟨w.heap.size, 0, none⟩ = some (.slice a n c) := fun z => (hB1).overCell 0 _ rfl z
                  refine region_over_tail 4 (by kernel_rfl) (by kernel_rfl) ?_
                  simp only [List.take_succ_cons, List.take_zero, List.drop_succ_cons, List.drop_zero]
                  repeat (first | go_big_quiet_step ((go_at_call 13; exact over_same (ref8Fault_c _ _ _))) | quiet_step ((go_at_call 13; exact over_same (ref8Fault_c _ _ _))))
                  refine wpQuiet_nil ?_
                  intro z
                  have gz := (G1).trans z.g
                  have hRz := (hR1).over z
                  generalize z.w = w9 at *
                  clear yB z
                  have cR := hRz.cell 0
                  have fR := hRz.free 0
                  go_wp2_with fail
                  have hset := (hRz.set (o := 0) (.slice a n c)).cell 0
                  have hend := SvEnds.of (show noV xs kind true = S from HE.out) (SvEnds.mk (s := noV xs kind true) ((HB.out.grew gz).store hRz (.slice a n c)) (gz.setCell (Nat.le_succ _) (.slice a n c)))
                  exact bodyPost_ret (v := .tuple #[.int .u64 0, .agg #[.slice a n c], .int .i64 (faultV kind true), .bool false]) (by simp [results, Try.results10, go_sem, hset]) rfl hend
                · have HE := Lib.hid (show (⟨fieldV (markE e kind) 53 10 * 4096 + fieldV x (11 + 9 * l) 0, writeV xs P 8 (markE e kind), 0, true⟩ : Sv) = S from by have := HV.out; simpa [badE, leafE, noneE, hin, b1, b2, b3, c1, al] using this)
                  clear HV
                  by_cases k2 : kind = 2
                  · subst k2
                    have hmk : bits .or .u64 (bits .or .u64 e 64) 128 = markE e 2 := by unfold markE; rw [if_pos rfl]
                    go_upto_region 21 with fail
                    have hml := markE_lt e 2 ⟨e0, e1⟩
                    generalize hee : markE e 2 = ee at *
                    clear hee hmk
                    obtain ⟨m0, m1⟩ := hml
                    have cB1 := hB1.cell 0
                    go_wp2_with fail
                    refine (refWrite_c P 8 ee p0 (by omega) m0 m1 _ (HB.out.grew G1) hl).mono ?_
                    rintro e' w2 ⟨r, rfl, hr2, g2⟩
                    obtain ⟨ra, rn, rc, re⟩ : ∃ a n c, r = .slice a n c := (let ⟨a, c, e, _⟩ := hr2.shape; ⟨a, _, c, e⟩)
                    subst re
                    have hR2 := hR1.grew g2
                    have G2 := G1.trans g2
                    clear cB1
                    go_upto_region 22 with fail
                    have hT3 : Blk (w2.alloc (.cells #[.slice ra rn rc] 24)) w2.heap.size #[.slice ra rn rc] 24 := Blk.new _ _ _ _ rfl
                    have hR3 : Blk (w2.alloc (.cells #[.slice ra rn rc] 24)) (w.heap.size + 1) #[.slice none 0 0] 24 := hR2.alloc _
                    have G3 : Grew w (w2.alloc (.cells #[.slice ra rn rc] 24)) := G2.alloc _
                    have hr3 := Lib.hid (takes_box hr2 #[.slice ra rn rc] 24)
                    clear hr2
                    generalize (w2.alloc (.cells #[.slice ra rn rc] 24)) = w3 at *
                    generalize w2.heap.size = T at *
                    obtain ⟨f0, f1⟩ := table_lt ee 53 10 (by omega) (by omega) (by omega) (by decide)
                    have hlow : 0 ≤ fieldV x (11 + 9 * (l : Int)) 0 ∧ fieldV x (11 + 9 * (l : Int)) 0 < 1073741824 := by
                      have h := fieldV_small x (11 + 9 * (l : Int)) 0 (12 + 9 * l) (by omega) (by omega) (by omega) (by omega)
                      have h2 := pow_le_pow' (m := 12 + 9 * l) (n := 30) (by omega)
                      rw [show (2 : Int) ^ 30 = 1073741824 by decide] at h2
                      omega
                    obtain ⟨f2, f3⟩ := hlow
                    have s1 : IntKind.i64.wrap (9 * (l : Int)) = 9 * (l : Int) := IntWalk.i64_in _ (by omega)
                    have s2 : IntKind.i64.wrap (11 + 9 * (l : Int)) = 11 + 9 * (l : Int) := IntWalk.i64_in _ (by omega)
                    have s3 : IntKind.u64.wrap (fieldV ee 53 10 * 4096) = fieldV ee 53 10 * 4096 := IntWalk.u64_in _ (by omega)
                    have s4 : IntKind.u64.wrap (fieldV ee 53 10 * 4096 + fieldV x (11 + 9 * (l : Int)) 0) = fieldV ee 53 10 * 4096 + fieldV x (11 + 9 * (l : Int)) 0 := IntWalk.u64_in _ (by omega)
                    have yT : ∀ z : Over w3, z.w.cell? ⟨T, 0, none⟩ = some (.slice ra rn rc) := fun z => hT3.overCell 0 _ rfl z
                    refine region_over_tail 11 (by kernel_rfl) (by kernel_rfl) ?_
                    simp only [List.take_succ_cons, List.take_zero, List.drop_succ_cons, List.drop_zero]
                    repeat (first | go_big_quiet_step ((go_at_call 30; exact over_same (ref8f_c _ _ _ (by assumption) (by assumption) _))) | quiet_step ((go_at_call 30; exact over_same (ref8f_c _ _ _ (by assumption) (by assumption) _))))
                    refine wpQuiet_nil ?_
                    intro z
                    have gz := G3.trans z.g
                    have hRz := hR3.over z
                    have hrz := hr3.out.grew z.g
                    generalize z.w = w9 at *
                    clear yT z
                    have cR := hRz.cell 0
                    have fR := hRz.free 0
                    go_wp2_with fail
                    have hset := (hRz.set (o := 0) (.slice ra rn rc)).cell 0
                    have hend := SvEnds.of HE.out (SvEnds.mk (s := ⟨fieldV ee 53 10 * 4096 + fieldV x (11 + 9 * l) 0, writeV xs P 8 ee, 0, true⟩) (hrz.store hRz (.slice ra rn rc)) (gz.setCell (Nat.le_succ _) (.slice ra rn rc)))
                    exact bodyPost_ret (v := .tuple #[.int .u64 (fieldV ee 53 10 * 4096 + fieldV x (11 + 9 * (l : Int)) 0), .agg #[.slice ra rn rc], .int .i64 0, .bool true]) (by simp [results, Try.results10, go_sem, hset]) rfl hend
                  · have k2' : (kind == 2) = false := by simpa using k2
                    have hmk : bits .or .u64 e 64 = markE e kind := by unfold markE; rw [if_neg k2]
                    clear k2
                    go_upto_region 21 with fail
                    have hml := markE_lt e kind ⟨e0, e1⟩
                    generalize hee : markE e kind = ee at *
                    clear hee hmk
                    obtain ⟨m0, m1⟩ := hml
                    have cB1 := hB1.cell 0
                    go_wp2_with fail
                    refine (refWrite_c P 8 ee p0 (by omega) m0 m1 _ (HB.out.grew G1) hl).mono ?_
                    rintro e' w2 ⟨r, rfl, hr2, g2⟩
                    obtain ⟨ra, rn, rc, re⟩ : ∃ a n c, r = .slice a n c := (let ⟨a, c, e, _⟩ := hr2.shape; ⟨a, _, c, e⟩)
                    subst re
                    have hR2 := hR1.grew g2
                    have G2 := G1.trans g2
                    clear cB1
                    go_upto_region 22 with fail
                    have hT3 : Blk (w2.alloc (.cells #[.slice ra rn rc] 24)) w2.heap.size #[.slice ra rn rc] 24 := Blk.new _ _ _ _ rfl
                    have hR3 : Blk (w2.alloc (.cells #[.slice ra rn rc] 24)) (w.heap.size + 1) #[.slice none 0 0] 24 := hR2.alloc _
                    have G3 : Grew w (w2.alloc (.cells #[.slice ra rn rc] 24)) := G2.alloc _
                    have hr3 := Lib.hid (takes_box hr2 #[.slice ra rn rc] 24)
                    clear hr2
                    generalize (w2.alloc (.cells #[.slice ra rn rc] 24)) = w3 at *
                    generalize w2.heap.size = T at *
                    obtain ⟨f0, f1⟩ := table_lt ee 53 10 (by omega) (by omega) (by omega) (by decide)
                    have hlow : 0 ≤ fieldV x (11 + 9 * (l : Int)) 0 ∧ fieldV x (11 + 9 * (l : Int)) 0 < 1073741824 := by
                      have h := fieldV_small x (11 + 9 * (l : Int)) 0 (12 + 9 * l) (by omega) (by omega) (by omega) (by omega)
                      have h2 := pow_le_pow' (m := 12 + 9 * l) (n := 30) (by omega)
                      rw [show (2 : Int) ^ 30 = 1073741824 by decide] at h2
                      omega
                    obtain ⟨f2, f3⟩ := hlow
                    have s1 : IntKind.i64.wrap (9 * (l : Int)) = 9 * (l : Int) := IntWalk.i64_in _ (by omega)
                    have s2 : IntKind.i64.wrap (11 + 9 * (l : Int)) = 11 + 9 * (l : Int) := IntWalk.i64_in _ (by omega)
                    have s3 : IntKind.u64.wrap (fieldV ee 53 10 * 4096) = fieldV ee 53 10 * 4096 := IntWalk.u64_in _ (by omega)
                    have s4 : IntKind.u64.wrap (fieldV ee 53 10 * 4096 + fieldV x (11 + 9 * (l : Int)) 0) = fieldV ee 53 10 * 4096 + fieldV x (11 + 9 * (l : Int)) 0 := IntWalk.u64_in _ (by omega)
                    have yT : ∀ z : Over w3, z.w.cell? ⟨T, 0, none⟩ = some (.slice ra rn rc) := fun z => hT3.overCell 0 _ rfl z
                    refine region_over_tail 11 (by kernel_rfl) (by kernel_rfl) ?_
                    simp only [List.take_succ_cons, List.take_zero, List.drop_succ_cons, List.drop_zero]
                    repeat (first | go_big_quiet_step ((go_at_call 30; exact over_same (ref8f_c _ _ _ (by assumption) (by assumption) _))) | quiet_step ((go_at_call 30; exact over_same (ref8f_c _ _ _ (by assumption) (by assumption) _))))
                    refine wpQuiet_nil ?_
                    intro z
                    have gz := G3.trans z.g
                    have hRz := hR3.over z
                    have hrz := hr3.out.grew z.g
                    generalize z.w = w9 at *
                    clear yT z
                    have cR := hRz.cell 0
                    have fR := hRz.free 0
                    go_wp2_with fail
                    have hset := (hRz.set (o := 0) (.slice ra rn rc)).cell 0
                    have hend := SvEnds.of HE.out (SvEnds.mk (s := ⟨fieldV ee 53 10 * 4096 + fieldV x (11 + 9 * l) 0, writeV xs P 8 ee, 0, true⟩) (hrz.store hRz (.slice ra rn rc)) (gz.setCell (Nat.le_succ _) (.slice ra rn rc)))
                    exact bodyPost_ret (v := .tuple #[.int .u64 (fieldV ee 53 10 * 4096 + fieldV x (11 + 9 * (l : Int)) 0), .agg #[.slice ra rn rc], .int .i64 0, .bool true]) (by simp [results, Try.results10, go_sem, hset]) rfl hend
            · have HE := Lib.hid (show noV xs kind true = S from by have := HV.out; simpa [badE, leafE, noneE, hin, b1, b2, b3] using this)
              clear HV
              go_upto_region 14 with (go_at_call 30; refine (ref8f_c _ _ _ (by assumption) (by assumption) _).mono ?_; rintro e' w' ⟨rfl, rfl⟩)
              have yB : ∀ z : Over w1, z.w.cell? ⟨w.heap.size, 0, none⟩ = some (.slice a n c) := fun z => (hB1).overCell 0 _ rfl z
              refine region_over_tail 4 (by kernel_rfl) (by kernel_rfl) ?_
              simp only [List.take_succ_cons, List.take_zero, List.drop_succ_cons, List.drop_zero]
              repeat (first | go_big_quiet_step ((go_at_call 13; exact over_same (ref8Fault_c _ _ _))) | quiet_step ((go_at_call 13; exact over_same (ref8Fault_c _ _ _))))
              refine wpQuiet_nil ?_
              intro z
              have gz := (G1).trans z.g
              have hRz := (hR1).over z
              generalize z.w = w9 at *
              clear yB z
              have cR := hRz.cell 0
              have fR := hRz.free 0
              go_wp2_with fail
              have hset := (hRz.set (o := 0) (.slice a n c)).cell 0
              have hend := SvEnds.of (show noV xs kind true = S from HE.out) (SvEnds.mk (s := noV xs kind true) ((HB.out.grew gz).store hRz (.slice a n c)) (gz.setCell (Nat.le_succ _) (.slice a n c)))
              exact bodyPost_ret (v := .tuple #[.int .u64 0, .agg #[.slice a n c], .int .i64 (faultV kind true), .bool false]) (by simp [results, Try.results10, go_sem, hset]) rfl hend
          · have HE := Lib.hid (show noV xs kind true = S from by have := HV.out; simpa [badE, leafE, noneE, hin, b1, b2] using this)
            clear HV
            go_upto_region 14 with (go_at_call 30; refine (ref8f_c _ _ _ (by assumption) (by assumption) _).mono ?_; rintro e' w' ⟨rfl, rfl⟩)
            have yB : ∀ z : Over w1, z.w.cell? ⟨w.heap.size, 0, none⟩ = some (.slice a n c) := fun z => (hB1).overCell 0 _ rfl z
            refine region_over_tail 4 (by kernel_rfl) (by kernel_rfl) ?_
            simp only [List.take_succ_cons, List.take_zero, List.drop_succ_cons, List.drop_zero]
            repeat (first | go_big_quiet_step ((go_at_call 13; exact over_same (ref8Fault_c _ _ _))) | quiet_step ((go_at_call 13; exact over_same (ref8Fault_c _ _ _))))
            refine wpQuiet_nil ?_
            intro z
            have gz := (G1).trans z.g
            have hRz := (hR1).over z
            generalize z.w = w9 at *
            clear yB z
            have cR := hRz.cell 0
            have fR := hRz.free 0
            go_wp2_with fail
            have hset := (hRz.set (o := 0) (.slice a n c)).cell 0
            have hend := SvEnds.of (show noV xs kind true = S from HE.out) (SvEnds.mk (s := noV xs kind true) ((HB.out.grew gz).store hRz (.slice a n c)) (gz.setCell (Nat.le_succ _) (.slice a n c)))
            exact bodyPost_ret (v := .tuple #[.int .u64 0, .agg #[.slice a n c], .int .i64 (faultV kind true), .bool false]) (by simp [results, Try.results10, go_sem, hset]) rfl hend
        · have HE := Lib.hid (show noV xs kind true = S from by have := HV.out; simpa [badE, leafE, noneE, hin, b1] using this)
          clear HV
          go_upto_region 14 with (go_at_call 30; refine (ref8f_c _ _ _ (by assumption) (by assumption) _).mono ?_; rintro e' w' ⟨rfl, rfl⟩)
          have yB : ∀ z : Over w1, z.w.cell? ⟨w.heap.size, 0, none⟩ = some (.slice a n c) := fun z => (hB1).overCell 0 _ rfl z
          refine region_over_tail 4 (by kernel_rfl) (by kernel_rfl) ?_
          simp only [List.take_succ_cons, List.take_zero, List.drop_succ_cons, List.drop_zero]
          repeat (first | go_big_quiet_step ((go_at_call 13; exact over_same (ref8Fault_c _ _ _))) | quiet_step ((go_at_call 13; exact over_same (ref8Fault_c _ _ _))))
          refine wpQuiet_nil ?_
          intro z
          have gz := (G1).trans z.g
          have hRz := (hR1).over z
          generalize z.w = w9 at *
          clear yB z
          have cR := hRz.cell 0
          have fR := hRz.free 0
          go_wp2_with fail
          have hset := (hRz.set (o := 0) (.slice a n c)).cell 0
          have hend := SvEnds.of (show noV xs kind true = S from HE.out) (SvEnds.mk (s := noV xs kind true) ((HB.out.grew gz).store hRz (.slice a n c)) (gz.setCell (Nat.le_succ _) (.slice a n c)))
          exact bodyPost_ret (v := .tuple #[.int .u64 0, .agg #[.slice a n c], .int .i64 (faultV kind true), .bool false]) (by simp [results, Try.results10, go_sem, hset]) rfl hend
end Go.Proofs.Ytocmningcpcmiaa
