/-
  Contracts of package sv39: Translate.
-/
import Derived.Test.YtocmningcpcmiaaSvK
import Derived.Test.YtocmningcpcmiaaSvG
import Derived.WalkKit
import Derived.Outline
import Derived.Handy
import Derived.LoopTactic
import Derived.WalkMore
import Derived.Deep.QuietTactic
import Derived.BigQuiet
import Derived.Deep.DeepCutAuto
import Derived.Deep.RegionHeld3
set_option linter.unusedVariables false
set_option linter.unusedSimpArgs false
namespace Go.Proofs.Ytocmningcpcmiaa
open Go.RowKit

/-! ### Plain numbers -/
theorem leaf_or (e x : Int) (l : Nat) (hl : l ≤ 2) (h : lowV e l = true) : bits .or .u64 (fieldV e 53 10 * 4096) (fieldV x (11 + 9 * (l : Int)) 0) = fieldV e 53 10 * 4096 + fieldV x (11 + 9 * (l : Int)) 0 := by
  obtain ⟨f0, f1⟩ := table_lt e 53 10 (by omega) (by omega) (by omega) (by decide)
  have hm := low_eq e l hl
  rw [h] at hm
  have h0 : fieldV (fieldV e 53 10 * 4096) (11 + 9 * (l : Int)) 0 = 0 := by simpa using hm
  have hs := fieldV_small x (11 + 9 * (l : Int)) 0 (12 + 9 * l) (by omega) (by omega) (by omega) (by omega)
  have hle : (2 : Int) ^ (12 + 9 * l) ≤ 1073741824 := by
    have := pow_le_pow' (m := 12 + 9 * l) (n := 30) (by omega)
    rwa [show (2 : Int) ^ 30 = 1073741824 by decide] at this
  have pp0 : 0 ≤ fieldV e 53 10 * 4096 := by omega
  have pp1 : fieldV e 53 10 * 4096 < 72057594037927936 := by omega
  generalize fieldV e 53 10 * 4096 = P at *
  generalize fieldV x (11 + 9 * (l : Int)) 0 = L at *
  have hd : P % 2 ^ (12 + 9 * l) = 0 := by
    unfold fieldV at h0
    rw [if_pos (by omega), show (0 : Int).toNat = 0 from rfl, show (11 + 9 * (l : Int) - 0 + 1).toNat = 12 + 9 * l by omega] at h0
    simpa using h0
  obtain ⟨q, hq⟩ : ∃ q, P = q * 2 ^ (12 + 9 * l) := ⟨P / 2 ^ (12 + 9 * l), by have := Int.emod_add_mul_ediv P (2 ^ (12 + 9 * l)); rw [hd, Int.zero_add, Int.mul_comm] at this; exact this.symm⟩
  have hq0 : 0 ≤ q := by
    by_cases hn : 0 ≤ q
    · exact hn
    · have h1 : q ≤ -1 := by omega
      have h2 : q * 2 ^ (12 + 9 * l) ≤ -1 * 2 ^ (12 + 9 * l) := Int.mul_le_mul_of_nonneg_right h1 (Int.le_of_lt (pow_pos' _))
      have := pow_pos' (12 + 9 * l)
      omega
  have := or_add L q (12 + 9 * l) hs.1 hs.2 hq0 (by rw [← hq]; omega)
  rw [← hq] at this
  rw [u64_or P L (by omega) (by omega) hs.1 (by omega), Nat.or_comm, ← u64_or L P hs.1 (by omega) (by omega) (by omega), this]
  omega
/-- One level, by what the program asks of an entry. -/
theorem sv_step (xs : List Int) (status priv x kind : Int) (l : Nat) (tb P e : Int) (hP : entP tb x l = P) (he : readV xs P 8 = e) :
    svGo xs status priv x kind (l + 1) tb = if insideV xs.length P 8 then (if (!badE e && !leafE e && !noneE e) then svGo xs status priv x kind l (fieldV e 53 10 * 4096)
      else if (!badE e && leafE e && lowV e l) && (userV e status priv kind && permV e status kind) then ⟨fieldV (markE e kind) 53 10 * 4096 + fieldV x (11 + 9 * l) 0, writeV xs P 8 (markE e kind), 0, true⟩ else noV xs kind true) else noV xs kind false := by
  simp only [svGo, hP, he, allowV]
  cases insideV xs.length P 8 <;> cases badE e <;> cases leafE e <;> cases noneE e <;> cases userV e status priv kind <;> cases permV e status kind <;> cases lowV e l <;> rfl

set_option maxRecDepth 100000 in
set_option maxHeartbeats 4000000 in
theorem trans_m {a : Option Addr} {c : Nat} {xs : List Int} (satp status priv x kind : Int) (hp : 3 ≤ priv) (w : World) (hb : Buf w (.slice a xs.length c) xs) (hl : xs.length ≤ 140737488355328) :
    Calls Try.prog 9 #[.agg #[.slice a xs.length c], .int .u64 satp, .int .u64 status, .int .i64 priv, .int .u64 x, .int .i64 kind] w (SvEnds ⟨x, xs, 0, true⟩ w) := by
  have HB := Lib.hid hb
  clear hb
  go_enter Try.func9, Try.ntmps9
  go_upto_region 1 with fail
  have hB0 : Blk ((w.alloc (.cells #[.slice a xs.length c] 24)).alloc (.cells #[.slice none 0 0] 24)) w.heap.size #[.slice a xs.length c] 24 := (Blk.new _ _ _ _ rfl).alloc _
  have hR0 : Blk ((w.alloc (.cells #[.slice a xs.length c] 24)).alloc (.cells #[.slice none 0 0] 24)) (w.heap.size + 1) #[.slice none 0 0] 24 := Blk.new _ _ _ _ (by simp)
  have g0 : Grew w ((w.alloc (.cells #[.slice a xs.length c] 24)).alloc (.cells #[.slice none 0 0] 24)) := ((Grew.refl w).alloc _).alloc _
  generalize ((w.alloc (.cells #[.slice a xs.length c] 24)).alloc (.cells #[.slice none 0 0] 24)) = w0 at *
  go_step3
  go_upto_region 2 with fail
  have cB := hB0.cell 0
  go_wp2_with fail
  refine (own8_c hl (HB.out.grew g0) (Grew.refl w0)).mono ?_
  rintro e' w9 ⟨a9, c9, rfl, H9, g9⟩
  have hR9 := hR0.grew g9
  have cR := hR9.cell 0
  have fR := hR9.free 0
  go_wp2_with fail
  have hset := (hR9.set (o := 0) (.slice a9 xs.length c9)).cell 0
  exact bodyPost_ret (v := .tuple #[.int .u64 x, .agg #[.slice a9 xs.length c9], .int .i64 0, .bool true]) (by simp [results, Try.results9, go_sem, hset]) rfl (SvEnds.mk (s := ⟨x, xs, 0, true⟩) (H9.out.store hR9 _) ((g0.trans g9).setCell (Nat.le_succ _) _))

set_option maxRecDepth 100000 in
set_option maxHeartbeats 4000000 in
theorem trans_o {a : Option Addr} {c : Nat} {xs : List Int} (satp status priv x kind : Int) (hp : priv < 3) (hs0 : 0 ≤ satp) (hs1 : satp < 18446744073709551616) (hm : (fieldV satp 63 60 != 8) = true) (w : World) (hb : Buf w (.slice a xs.length c) xs) (hl : xs.length ≤ 140737488355328) :
    Calls Try.prog 9 #[.agg #[.slice a xs.length c], .int .u64 satp, .int .u64 status, .int .i64 priv, .int .u64 x, .int .i64 kind] w (SvEnds ⟨x, xs, 0, true⟩ w) := by
  have HB := Lib.hid hb
  clear hb
  go_enter Try.func9, Try.ntmps9
  go_upto_region 1 with fail
  have hB0 : Blk ((w.alloc (.cells #[.slice a xs.length c] 24)).alloc (.cells #[.slice none 0 0] 24)) w.heap.size #[.slice a xs.length c] 24 := (Blk.new _ _ _ _ rfl).alloc _
  have hR0 : Blk ((w.alloc (.cells #[.slice a xs.length c] 24)).alloc (.cells #[.slice none 0 0] 24)) (w.heap.size + 1) #[.slice none 0 0] 24 := Blk.new _ _ _ _ (by simp)
  have g0 : Grew w ((w.alloc (.cells #[.slice a xs.length c] 24)).alloc (.cells #[.slice none 0 0] 24)) := ((Grew.refl w).alloc _).alloc _
  generalize ((w.alloc (.cells #[.slice a xs.length c] 24)).alloc (.cells #[.slice none 0 0] 24)) = w0 at *
  go_step3
  have gz : Grew w0 w0 := Grew.refl w0
  go_upto_region 2 with (go_at_call 17; refine (fld _ _ _ (by assumption) (by assumption) (by assumption)).mono ?_; rintro e' w1 ⟨rfl, g1⟩)
  have hB1 := hB0.grew g1
  have hR1 := hR0.grew g1
  have G1 := g0.trans g1
  clear hB0 hR0
  have cB := hB1.cell 0
  go_wp2_with fail
  refine (own8_c hl (HB.out.grew G1) (Grew.refl w1)).mono ?_
  rintro e' w9 ⟨a9, c9, rfl, H9, g9⟩
  have hR9 := hR1.grew g9
  have cR := hR9.cell 0
  have fR := hR9.free 0
  go_wp2_with fail
  have hset := (hR9.set (o := 0) (.slice a9 xs.length c9)).cell 0
  exact bodyPost_ret (v := .tuple #[.int .u64 x, .agg #[.slice a9 xs.length c9], .int .i64 0, .bool true]) (by simp [results, Try.results9, go_sem, hset]) rfl (SvEnds.mk (s := ⟨x, xs, 0, true⟩) (H9.out.store hR9 _) ((G1.trans g9).setCell (Nat.le_succ _) _))

set_option maxRecDepth 100000 in
set_option maxHeartbeats 4000000 in
theorem trans_s {a : Option Addr} {c : Nat} {xs : List Int} (satp status priv x kind : Int) (hp : priv < 3) (hs0 : 0 ≤ satp) (hs1 : satp < 18446744073709551616) (hx0 : 0 ≤ x) (hx1 : x < 18446744073709551616) (hm : (fieldV satp 63 60 != 8) = false) (hx : (sextV x 39 != x) = true) (w : World) (hb : Buf w (.slice a xs.length c) xs) (hl : xs.length ≤ 140737488355328) :
    Calls Try.prog 9 #[.agg #[.slice a xs.length c], .int .u64 satp, .int .u64 status, .int .i64 priv, .int .u64 x, .int .i64 kind] w (SvEnds (noV xs kind true) w) := by
  have HB := Lib.hid hb
  clear hb
  go_enter Try.func9, Try.ntmps9
  go_upto_region 1 with fail
  have hB0 : Blk ((w.alloc (.cells #[.slice a xs.length c] 24)).alloc (.cells #[.slice none 0 0] 24)) w.heap.size #[.slice a xs.length c] 24 := (Blk.new _ _ _ _ rfl).alloc _
  have hR0 : Blk ((w.alloc (.cells #[.slice a xs.length c] 24)).alloc (.cells #[.slice none 0 0] 24)) (w.heap.size + 1) #[.slice none 0 0] 24 := Blk.new _ _ _ _ (by simp)
  have g0 : Grew w ((w.alloc (.cells #[.slice a xs.length c] 24)).alloc (.cells #[.slice none 0 0] 24)) := ((Grew.refl w).alloc _).alloc _
  generalize ((w.alloc (.cells #[.slice a xs.length c] 24)).alloc (.cells #[.slice none 0 0] 24)) = w0 at *
  go_step3
  have gz : Grew w0 w0 := Grew.refl w0
  go_upto_region 2 with (go_at_call 17; refine (fld _ _ _ (by assumption) (by assumption) (by assumption)).mono ?_; rintro e' w1 ⟨rfl, g1⟩)
  have hB1 := hB0.grew g1
  have hR1 := hR0.grew g1
  have G1 := g0.trans g1
  clear hB0 hR0
  go_upto_region 4 with (go_at_call 19; refine (sext_c _ _ (by assumption) (by assumption) _).mono ?_; rintro e' w' ⟨rfl, h'⟩; obtain rfl := h'.symm)
  have cB := hB1.cell 0
  go_wp2_with fail
  refine (refused_c kind true hl (HB.out.grew G1) (Grew.refl w1)).mono ?_
  rintro e' w9 ⟨a9, c9, rfl, H9, g9⟩
  have hR9 := hR1.grew g9
  have cR := hR9.cell 0
  have fR := hR9.free 0
  go_wp2_with fail
  have hset := (hR9.set (o := 0) (.slice a9 xs.length c9)).cell 0
  exact bodyPost_ret (v := .tuple #[.int .u64 0, .agg #[.slice a9 xs.length c9], .int .i64 (faultV kind true), .bool false]) (by simp [results, Try.results9, go_sem, hset]) rfl (SvEnds.of (rfl) (SvEnds.mk (s := noV xs kind true) (H9.out.store hR9 _) ((G1.trans g9).setCell (Nat.le_succ _) _)))

set_option maxRecDepth 100000 in
set_option maxHeartbeats 4000000 in
theorem trans_l {a : Option Addr} {c : Nat} {xs : List Int} (satp status priv x kind : Int) (S : Sv) (hp : priv < 3) (hs0 : 0 ≤ satp) (hs1 : satp < 18446744073709551616) (ht0 : 0 ≤ status) (ht1 : status < 18446744073709551616) (hx0 : 0 ≤ x) (hx1 : x < 18446744073709551616) (hm : (fieldV satp 63 60 != 8) = false) (hx : (sextV x 39 != x) = false) (hS : svGo xs status priv x kind 3 (fieldV satp 43 0 * 4096) = S) (w : World) (hb : Buf w (.slice a xs.length c) xs) (hl : xs.length ≤ 140737488355328) :
    Calls Try.prog 9 #[.agg #[.slice a xs.length c], .int .u64 satp, .int .u64 status, .int .i64 priv, .int .u64 x, .int .i64 kind] w (SvEnds S w) := by
  have HB := Lib.hid hb
  clear hb
  have HS := Lib.hid hS
  obtain ⟨ht2, ht3⟩ := table_lt satp 43 0 (by omega) (by omega) (by omega) (by decide)
  clear hS
  go_enter Try.func9, Try.ntmps9
  go_upto_region 1 with fail
  have hB0 : Blk ((w.alloc (.cells #[.slice a xs.length c] 24)).alloc (.cells #[.slice none 0 0] 24)) w.heap.size #[.slice a xs.length c] 24 := (Blk.new _ _ _ _ rfl).alloc _
  have hR0 : Blk ((w.alloc (.cells #[.slice a xs.length c] 24)).alloc (.cells #[.slice none 0 0] 24)) (w.heap.size + 1) #[.slice none 0 0] 24 := Blk.new _ _ _ _ (by simp)
  have g0 : Grew w ((w.alloc (.cells #[.slice a xs.length c] 24)).alloc (.cells #[.slice none 0 0] 24)) := ((Grew.refl w).alloc _).alloc _
  generalize ((w.alloc (.cells #[.slice a xs.length c] 24)).alloc (.cells #[.slice none 0 0] 24)) = w0 at *
  go_step3
  have gz : Grew w0 w0 := Grew.refl w0
  go_upto_region 2 with (go_at_call 17; refine (fld _ _ _ (by assumption) (by assumption) (by assumption)).mono ?_; rintro e' w1 ⟨rfl, g1⟩)
  have hB1 := hB0.grew g1
  have hR1 := hR0.grew g1
  have G1 := g0.trans g1
  clear hB0 hR0
  go_upto_region 5 with (go_at_call 19; refine (sext_c _ _ (by assumption) (by assumption) _).mono ?_; rintro e' w' ⟨rfl, h'⟩; obtain rfl := h'.symm)
  go_upto_region 6 with fail
  have hA2 : Blk (w1.alloc (.cells #[.int .u64 status, .int .i64 priv, .int .i64 kind] 45)) w1.heap.size #[.int .u64 status, .int .i64 priv, .int .i64 kind] 45 := Blk.new _ _ _ _ rfl
  have g2 : Grew w1 (w1.alloc (.cells #[.int .u64 status, .int .i64 priv, .int .i64 kind] 45)) := (Grew.refl w1).alloc _
  generalize (w1.alloc (.cells #[.int .u64 status, .int .i64 priv, .int .i64 kind] 45)) = w2 at *
  generalize w1.heap.size = A at *
  have hB2 := hB1.grew g2
  have hR2 := hR1.grew g2
  have G2 := G1.trans g2
  clear hB1 hR1 G1 gz g1 g2 g0
  have gy : Grew w2 w2 := Grew.refl w2
  go_wp2_with (go_at_call 17; refine (fld _ _ _ (by assumption) (by assumption) gy).mono ?_; rintro e' w3 ⟨rfl, g3⟩)
  go_step3
  go_wp2_with fail
  go_loopw [17, 53] (fun t i wr => ∃ (k : Nat) (tb : Int), k ≤ 3 ∧ i = .int .i64 (3 - (k : Int)) ∧ t = .int .u64 tb ∧ 0 ≤ tb ∧ tb < 72057594037927936 ∧ Hid (svGo xs status priv x kind k tb = S) ∧ Grew w2 wr) (fun _ i _ => (3 - intOf i).toNat)
  case atStart => exact ⟨3, _, by omega, rfl, rfl, by omega, by omega, HS.out, g3⟩
  case round =>
    obtain ⟨k, tb, hk, rfl, rfl, t0, t1, hv, gr⟩ := hrel
    have hBr := hB2.grew gr
    have hRr := hR2.grew gr
    have hAr := hA2.grew gr
    have G := G2.trans gr
    clear hB2 hR2 hA2 G2 gy g3
    rcases k with _ | l
    · rw [show (3 : Int) - ((0 : Nat) : Int) = 3 from rfl]
      go_upto_region 21 with fail
      have cB := hBr.cell 0
      go_wp2_with fail
      refine (refused_c kind true hl (HB.out.grew G) (Grew.refl wr)).mono ?_
      rintro e' w9 ⟨a9, c9, rfl, H9, g9⟩
      have hR9 := hRr.grew g9
      have cR := hR9.cell 0
      have fR := hR9.free 0
      go_wp2_with fail
      have hset := (hR9.set (o := 0) (.slice a9 xs.length c9)).cell 0
      exact bodyPost_ret (v := .tuple #[.int .u64 0, .agg #[.slice a9 xs.length c9], .int .i64 (faultV kind true), .bool false]) (by simp [results, Try.results9, go_sem, hset]) rfl (SvEnds.of (hv.out) (SvEnds.mk (s := noV xs kind true) (H9.out.store hR9 _) ((G.trans g9).setCell (Nat.le_succ _) _)))
    · have hl2 : l ≤ 2 := by omega
      rw [show (3 : Int) - ((l + 1 : Nat) : Int) = 2 - (l : Int) by omega]
      have l0 : (0 : Int) ≤ 2 - (l : Int) := by omega
      have l1 : (2 : Int) - (l : Int) < 3 := by omega
      have lk : (2 : Int) - (l : Int) + (l : Int) = 2 := by omega
      have hq := fieldV_small x (20 + 9 * l) (12 + 9 * l) 9 (by omega) (by omega) (by omega) (by omega)
      rw [show (2 : Int) ^ 9 = 512 by decide] at hq
      obtain ⟨q0, q1⟩ := hq
      obtain ⟨p0, p1⟩ := entP_lt tb x l hl2 t0 t1
      have heP : entP tb x l = tb + 8 * fieldV x (20 + 9 * l) (12 + 9 * l) := rfl
      have hv' := hv.out
      rw [sv_step xs status priv x kind l tb _ _ heP rfl] at hv'
      rw [heP] at p0 p1
      have HV := Lib.hid hv'
      have hidx := fun w => index_c x (2 - (l : Int)) l hl2 lk hx0 hx1 (Grew.refl w)
      have hrst := fun W w (g : Grew W w) => rest_c x (2 - (l : Int)) l hl2 lk hx0 hx1 g
      have hlf := fun e W w h0 h1 (g : Grew W w) => isLeaf_c e (2 - (l : Int)) l hl2 lk h0 h1 g
      have HLO := Lib.hid (fun e => leaf_or e x l hl2)
      have hlow : 0 ≤ fieldV x (11 + 9 * (l : Int)) 0 ∧ fieldV x (11 + 9 * (l : Int)) 0 < 1073741824 := by
        have h := fieldV_small x (11 + 9 * (l : Int)) 0 (12 + 9 * l) (by omega) (by omega) (by omega) (by omega)
        have h2 := pow_le_pow' (m := 12 + 9 * l) (n := 30) (by omega)
        rw [show (2 : Int) ^ 30 = 1073741824 by decide] at h2
        omega
      clear hv hv' heP lk
      have HI := Lib.hid hidx
      clear hidx
      generalize hrk : (2 : Int) - (l : Int) = k at *
      go_upto_region 10 with fail
      go_upto_region 11 with (go_at_call 21; refine (HI.out _).mono ?_; rintro e' w4 ⟨rfl, g4⟩)
      have hB4 := hBr.grew g4
      have hR4 := hRr.grew g4
      have hA4 := hAr.grew g4
      have G4 := G.trans g4
      have gr4 := gr.trans g4
      clear hBr hRr hAr G gr g4 HI
      generalize tb + 8 * fieldV x (20 + 9 * (l : Int)) (12 + 9 * (l : Int)) = P at *
      clear q0 q1
      have hread := read_c P 8 p0 (by omega) (by omega) (by omega) w4 (HB.out.grew G4)
      rw [show sizeV 8 = true from rfl, Bool.true_and] at hread
      have he := readV_lt HB.out.ok P 8
      generalize readV xs P 8 = e at *
      obtain ⟨e0, e1⟩ := he
      have HRD := Lib.hid hread
      clear hread
      have cB := hB4.cell 0
      cases hin : insideV xs.length P 8
      · rw [hin] at HRD
        go_wp2_with fail
        refine HRD.out.mono ?_
        rintro e' w5 ⟨rfl, g5⟩
        have hB5 := hB4.grew g5
        have hR5 := hR4.grew g5
        have G5 := G4.trans g5
        have HE := Lib.hid (show noV xs kind false = S from by have := HV.out; rw [hin] at this; exact this)
        clear cB HV
        go_upto_region 13 with fail
        have cB := hB5.cell 0
        go_wp2_with fail
        refine (refused_c kind false hl (HB.out.grew G5) (Grew.refl w5)).mono ?_
        rintro e' w9 ⟨a9, c9, rfl, H9, g9⟩
        have hR9 := hR5.grew g9
        have cR := hR9.cell 0
        have fR := hR9.free 0
        go_wp2_with fail
        have hset := (hR9.set (o := 0) (.slice a9 xs.length c9)).cell 0
        exact bodyPost_ret (v := .tuple #[.int .u64 0, .agg #[.slice a9 xs.length c9], .int .i64 (faultV kind false), .bool false]) (by simp [results, Try.results9, go_sem, hset]) rfl (SvEnds.of (HE.out) (SvEnds.mk (s := noV xs kind false) (H9.out.store hR9 _) ((G5.trans g9).setCell (Nat.le_succ _) _)))
      · rw [hin] at HRD HV
        have HV := Lib.hid (HV.out)
        go_wp2_with fail
        refine HRD.out.mono ?_
        rintro e' w5 ⟨rfl, g5⟩
        have hB5 := hB4.grew g5
        have hR5 := hR4.grew g5
        have hA5 := hA4.grew g5
        have G5 := G4.trans g5
        have gr5 := gr4.trans g5
        clear cB hB4 hR4 hA4 G4 gr4 g5
        have hld := fun w (g : Grew w5 w) => leads_c e e0 e1 g
        have hlf' := fun w (g : Grew w5 w) => hlf e w5 w e0 e1 g
        have hmy := fun w (g : Grew w5 w) => may_c status priv kind e ht0 ht1 e0 e1 g
        have hlo := HLO.out e
        have hmk := field_mark e kind ⟨e0, e1⟩ 53 10 (by omega) (by omega) (by omega)
        have hml := markE_lt e kind ⟨e0, e1⟩
        have hpg := fun W w (g : Grew W w) => page_c e e0 e1 g
        obtain ⟨f0, f1⟩ := table_lt e 53 10 (by omega) (by omega) (by omega) (by decide)
        have hv2 := HV.out
        first | rw [if_pos rfl] at hv2 | rw [if_pos trivial] at hv2
        rw [show fieldV (markE e kind) 53 10 = fieldV e 53 10 from hmk] at hv2
        clear hlf HLO hmk HV
        cases hL : (!badE e && !leafE e && !noneE e)
        · rw [hL] at hld hv2
          cases hI : (!badE e && leafE e && lowV e l)
          · rw [hI] at hlf' hv2
            have HE := Lib.hid (show noV xs kind true = S from hv2)
            have HLD := Lib.hid hld
            have HLF := Lib.hid hlf'
            clear hv2 hld hlf' hmy hlo hml hpg hrst hL hI
            have gz5 : Grew w5 w5 := Grew.refl w5
            go_upto_region 17 with (go_at_call 23; refine (HLD.out _ gz5).mono ?_; rintro e' w6 ⟨rfl, g6⟩)
            go_upto_region 21 with (go_at_call 25; refine (HLF.out _ g6).mono ?_; rintro e' w7 ⟨rfl, g7⟩)
            have hB7 := hB5.grew g7
            have hR7 := hR5.grew g7
            have G7 := G5.trans g7
            have cB := hB7.cell 0
            go_wp2_with fail
            refine (refused_c kind true hl (HB.out.grew G7) (Grew.refl w7)).mono ?_
            rintro e' w9 ⟨a9, c9, rfl, H9, g9⟩
            have hR9 := hR7.grew g9
            have cR := hR9.cell 0
            have fR := hR9.free 0
            go_wp2_with fail
            have hset := (hR9.set (o := 0) (.slice a9 xs.length c9)).cell 0
            exact bodyPost_ret (v := .tuple #[.int .u64 0, .agg #[.slice a9 xs.length c9], .int .i64 (faultV kind true), .bool false]) (by simp [results, Try.results9, go_sem, hset]) rfl (SvEnds.of (HE.out) (SvEnds.mk (s := noV xs kind true) (H9.out.store hR9 _) ((G7.trans g9).setCell (Nat.le_succ _) _)))
          · rw [hI] at hlf' hv2
            have hlow1 : lowV e l = true := by simp at hI; exact hI.2
            have hor := hlo hlow1
            clear hlo hlow1
            cases hM : (userV e status priv kind && permV e status kind)
            · rw [hM] at hmy hv2
              have HE := Lib.hid (show noV xs kind true = S from hv2)
              have HLD := Lib.hid hld
              have HLF := Lib.hid hlf'
              have HMY := Lib.hid hmy
              clear hv2 hld hlf' hmy hml hpg hrst hL hI hM hor
              have gz5 : Grew w5 w5 := Grew.refl w5
              go_upto_region 17 with (go_at_call 23; refine (HLD.out _ gz5).mono ?_; rintro e' w6 ⟨rfl, g6⟩)
              go_upto_region 21 with (first | (go_at_call 25; refine (HLF.out _ g6).mono ?_; rintro e' w7 ⟨rfl, g7⟩; have cA0 := (hA5.grew g7).cell 0; have cA1 := (hA5.grew g7).cell 1; have cA2 := (hA5.grew g7).cell 2) | (go_at_call 26; refine (HMY.out _ g7).mono ?_; rintro e' w8 ⟨rfl, g8⟩))
              have hB8 := hB5.grew g8
              have hR8 := hR5.grew g8
              have G8 := G5.trans g8
              have cB := hB8.cell 0
              go_wp2_with fail
              refine (refused_c kind true hl (HB.out.grew G8) (Grew.refl w8)).mono ?_
              rintro e' w9 ⟨a9, c9, rfl, H9, g9⟩
              have hR9 := hR8.grew g9
              have cR := hR9.cell 0
              have fR := hR9.free 0
              go_wp2_with fail
              have hset := (hR9.set (o := 0) (.slice a9 xs.length c9)).cell 0
              exact bodyPost_ret (v := .tuple #[.int .u64 0, .agg #[.slice a9 xs.length c9], .int .i64 (faultV kind true), .bool false]) (by simp [results, Try.results9, go_sem, hset]) rfl (SvEnds.of (HE.out) (SvEnds.mk (s := noV xs kind true) (H9.out.store hR9 _) ((G8.trans g9).setCell (Nat.le_succ _) _)))
            · rw [hM] at hmy hv2
              have HE := Lib.hid (show (⟨fieldV e 53 10 * 4096 + fieldV x (11 + 9 * l) 0, writeV xs P 8 (markE e kind), 0, true⟩ : Sv) = S from hv2)
              have HLD := Lib.hid hld
              have HLF := Lib.hid hlf'
              have HMY := Lib.hid hmy
              clear hv2 hld hlf' hmy hL hI hM
              have hmk := fun w => marked_c e kind w
              have hm8 := markE_lt e kind ⟨e0, e1⟩
              generalize markE e kind = ee at *
              obtain ⟨m0, m1⟩ := hml
              have hwr : ∀ w, Buf w (.slice a xs.length c) xs → Calls Try.prog 27 #[.agg #[.slice a xs.length c], .int .u64 P, .int .i64 8, .int .u64 ee] w fun e' w' => ∃ a' n' c' b', e' = .returned (.tuple #[.agg #[.slice a' n' c'], .bool b']) ∧ Hid (Buf w' (.slice a' n' c') (writeV xs P 8 ee)) ∧ Grew w w' := fun w hb => by
                refine (write_c P 8 ee p0 (by omega) m0 m1 w hb hl).mono ?_
                rintro e' w' ⟨g, rfl, hr, hg⟩
                exact ⟨_, _, _, _, rfl, hr.buf (writeV_ok _ _ _ hb.ok), hg⟩
              have HMK := Lib.hid hmk
              have HWR := Lib.hid hwr
              have HPG := Lib.hid hpg
              have HRS := Lib.hid hrst
              generalize hq : fieldV e 53 10 * 4096 + fieldV x (11 + 9 * (l : Int)) 0 = q at *
              clear hmk hwr hpg hrst hm8 hq
              have gz5 : Grew w5 w5 := Grew.refl w5
              go_upto_region 17 with (go_at_call 23; refine (HLD.out _ gz5).mono ?_; rintro e' w6 ⟨rfl, g6⟩)
              go_upto_region 18 with (first | (go_at_call 25; refine (HLF.out _ g6).mono ?_; rintro e' w7 ⟨rfl, g7⟩; have cA0 := (hA5.grew g7).cell 0; have cA1 := (hA5.grew g7).cell 1; have cA2 := (hA5.grew g7).cell 2) | (go_at_call 26; refine (HMY.out _ g7).mono ?_; rintro e' w8 ⟨rfl, g8⟩))
              clear cA0 cA1 cA2
              have hB8 := hB5.grew g8
              have hR8 := hR5.grew g8
              have G8 := G5.trans g8
              clear hB5 hR5 hA5 G5 gr5 g6 g7 g8 gz5 HLD HLF HMY
              have cB8 := hB8.cell 0
              have hne := World.new_ne w8 _ cB8
              have hne2 : ¬ w8.heap.size = w.heap.size := by have := hB8.lt; omega
              have hne3 : ¬ w.heap.size = w8.heap.size := by have := hB8.lt; omega
              go_region_held3 (fun w' => w'.cell? ⟨w.heap.size, 0, none⟩ = some (.slice a xs.length c)) (go_keep)
                (first
                  | (go_at_call 28; refine (HMK.out _).mono ?_; rintro e' w' ⟨rfl, rfl⟩)
                  | (go_at_call 27; refine (HWR.out _ ((HB.out.grew G8).grew (by first | exact (Grew.refl w8).drew1 | exact (Grew.refl w8).drew1.alloc _))).mono ?_; rintro e' w9 ⟨ra, rn, rc, rb, rfl, hr9, g9⟩; have G9 : Grew w8 w9 := (by first | exact (Grew.refl w8).drew1.trans g9 | exact ((Grew.refl w8).drew1.alloc _).trans g9); have c9 : w9.cell? ⟨w.heap.size, 0, none⟩ = some (.slice a xs.length c) := ((hB8.grew G9).cell 0).trans rfl; first | (have hT9 : Blk w9 w8.heap.size #[.slice none 0 0] 24 := (Blk.new w8.drew _ _ _ rfl).grew g9; have cT := hT9.cell 0; have fT := hT9.free 0) | skip))
              all_goals
                (first
                  | (have hT10 : Blk (w9.setCell ⟨w8.heap.size, 0, none⟩ (.slice ra rn rc)) w8.heap.size #[.slice ra rn rc] 24 := hT9.set _
                     have hR10 : Blk (w9.setCell ⟨w8.heap.size, 0, none⟩ (.slice ra rn rc)) (w.heap.size + 1) #[.slice none 0 0] 24 := (hR8.grew G9).other (by have := hR8.lt; omega) _
                     have hr10 := Lib.hid (hr9.out.store hT9 (.slice ra rn rc))
                     have G10 : Grew w (w9.setCell ⟨w8.heap.size, 0, none⟩ (.slice ra rn rc)) := (G8.trans G9).setCell (by have := G8.size; omega) _
                     clear cT fT c9 hT9 g9 hr9
                     generalize (w9.setCell ⟨w8.heap.size, 0, none⟩ (.slice ra rn rc)) = w10 at *
                     generalize w8.heap.size = T at *)
                  | (have hT10 : Blk (w9.alloc (.cells #[.slice ra rn rc] 24)) w9.heap.size #[.slice ra rn rc] 24 := Blk.new _ _ _ _ rfl
                     have hR10 : Blk (w9.alloc (.cells #[.slice ra rn rc] 24)) (w.heap.size + 1) #[.slice none 0 0] 24 := (hR8.grew G9).alloc _
                     have hr10 := Lib.hid (takes_box hr9.out #[.slice ra rn rc] 24)
                     have G10 : Grew w (w9.alloc (.cells #[.slice ra rn rc] 24)) := (G8.trans G9).alloc _
                     clear c9 g9 hr9
                     generalize (w9.alloc (.cells #[.slice ra rn rc] 24)) = w10 at *
                     generalize w9.heap.size = T at *))
                go_upto_region 19 with fail
                have yT : ∀ z : Over w10, z.w.cell? ⟨T, 0, none⟩ = some (.slice ra rn rc) := fun z => hT10.overCell 0 _ rfl z
                refine region_over_tail 8 (by kernel_rfl) (by kernel_rfl) ?_
                simp only [List.take_succ_cons, List.take_zero, List.drop_succ_cons, List.drop_zero]
                repeat (first | go_big_quiet_step ((first | (go_at_call 24; exact over_eq (HPG.out _ _ (Over.g _))) | (go_at_call 29; exact over_eq (HRS.out _ _ (Over.g _))))) | quiet_step ((first | (go_at_call 24; exact over_eq (HPG.out _ _ (Over.g _))) | (go_at_call 29; exact over_eq (HRS.out _ _ (Over.g _))))))
                refine wpQuiet_nil ?_
                intro z
                have gz := G10.trans z.g
                have hRz := hR10.over z
                have hrz := hr10.out.grew z.g
                generalize z.w = w11 at *
                clear yT z
                have cR := hRz.cell 0
                have fR := hRz.free 0
                go_wp2_with fail
                have hset := (hRz.set (o := 0) (.slice ra rn rc)).cell 0
                have hend := SvEnds.of HE.out (SvEnds.mk (s := ⟨q, writeV xs P 8 ee, 0, true⟩) (hrz.store hRz (.slice ra rn rc)) (gz.setCell (Nat.le_succ _) (.slice ra rn rc)))
                exact bodyPost_ret (v := .tuple #[.int .u64 q, .agg #[.slice ra rn rc], .int .i64 0, .bool true]) (by simp [results, Try.results9, go_sem, hset]) rfl hend
        · rw [hL] at hld hv2
          have HE := Lib.hid (show svGo xs status priv x kind l (fieldV e 53 10 * 4096) = S from hv2)
          have HLD := Lib.hid hld
          have HPG := Lib.hid hpg
          clear hv2 hld hlf' hmy hlo hml hpg hrst hL
          have gz5 : Grew w5 w5 := Grew.refl w5
          go_upto_region 16 with (go_at_call 23; refine (HLD.out _ gz5).mono ?_; rintro e' w6 ⟨rfl, g6⟩)
          go_wp2_with (go_at_call 24; refine (HPG.out _ _ g6).mono ?_; rintro e' w7 ⟨rfl, g7⟩)
          go_roundw
          case rel => exact ⟨l, _, by omega, by subst hrk; first | rfl | (congr 1; omega), rfl, by omega, by omega, HE.out, gr5.trans g7⟩
          case measure => subst hrk; first | (simp [intOf]; done) | (simp [intOf]; omega)
end Go.Proofs.Ytocmningcpcmiaa
