/-
  Package seg: the head that bytes begin with; whether a segment may be.
-/
import Derived.Test.YtiaejlbkdgcfiaaSgB
import Derived.Test.YtiaejlbkdgcfiaaSgC
set_option maxRecDepth 4000
set_option linter.unusedVariables false
set_option linter.unusedSimpArgs false
namespace Go.Proofs.Ytiaejlbkdgcfiaa
open Go.RowKit

set_option maxHeartbeats 2000000 in
theorem head_eql (s d q a n fl wn m s' d' q' a' n' fl' wn' m' : Int) (w : World) : (binOp .eql 50 (.agg #[.int .i64 s, .int .i64 d, .int .u32 q, .int .u32 a, .int .i64 n, .int .i64 fl, .int .i64 wn, .int .i64 m]) (.agg #[.int .i64 s', .int .i64 d', .int .u32 q', .int .u32 a', .int .i64 n', .int .i64 fl', .int .i64 wn', .int .i64 m'])).run Try.prog w = .ok (.bool (s == s' && (d == d' && (q == q' && (a == a' && (n == n' && (fl == fl' && (wn == wn' && (m == m'))))))))) w := by
  have hu := Try.underlying50
  have hp : Try.prog.stoodInHeld 50 = false := by kernel_rfl
  rw [run_eql_struct, run_equalIn_agg w 9999 _ _ _ (by simp [Program.fieldsOf, hu]) hp]
  simp only [Program.fieldsOf, hu]
  simp [Op.eqFields, go_sem]
  by_cases h0 : s = s'
  · skip
    by_cases h1 : d = d'
    · skip
      by_cases h2 : q = q'
      · skip
        by_cases h3 : a = a'
        · skip
          by_cases h4 : n = n'
          · skip
            by_cases h5 : fl = fl'
            · skip
              by_cases h6 : wn = wn'
              · skip
                by_cases h7 : m = m'
                · simp [h0, h1, h2, h3, h4, h5, h6, h7]
                · simp [h0, h1, h2, h3, h4, h5, h6, h7]
              · simp [h0, h1, h2, h3, h4, h5, h6]
            · simp [h0, h1, h2, h3, h4, h5]
          · simp [h0, h1, h2, h3, h4]
        · simp [h0, h1, h2, h3]
      · simp [h0, h1, h2]
    · simp [h0, h1]
  · simp [h0]
set_option maxHeartbeats 2000000 in
theorem headAt_no {a : Option Addr} {n c : Nat} {xs : List Int} (h20 : 20 ≤ hoSG xs) (hle : hoSG xs ≤ xs.length) (hms : (mssV (cutL xs 20 (hoSG xs))).2 = false) {w : World} (hb : Buf w (.slice a n c) xs) :
    Calls Try.prog 31 #[.slice a n c] w fun e w' => e = .returned (.tuple #[.agg #[.int .i64 0, .int .i64 0, .int .u32 0, .int .u32 0, .int .i64 0, .int .i64 0, .int .i64 0, .int .i64 0], .bool false]) ∧ Grew w w' := by
  have hn := hb.lenEq.1
  have h60 : hoSG xs ≤ 60 := by have := hb.ok.getD 12; unfold hoSG; omega
  have HT0 := Lib.hid (fun w' (g : Grew w w') => sgTold_c (by omega) w' (hb.grew g))
  obtain ⟨a2, c2, H2, z1, hrun, z3, z4⟩ := hb.run_cut (lo := 20) (hi := hoSG xs) h20 hle
  have r2 : ∀ w', (Instr.sliceAt 23 (.slice a n c) (some (.int .i64 20)) (some (.int .i64 (hoSG xs : Nat))) none).run Try.prog w' = .ok (.slice a2 (hoSG xs - 20) c2) w' := hrun .i64 .i64
  clear z1 z3 z4 hrun
  have hM := Lib.hid (mssV_lt (hb.ok.cut 20 (hoSG xs)))
  have HM := Lib.hid (fun w' (g : Grew w w') => mssIn_c (by rw [cutL_length h20 hle]; omega) (H2.grew g))
  rw [hms] at HM
  clear hb h20 hle hms h60 H2 hM hn
  generalize (mssV (cutL xs 20 (hoSG xs))).1 = M at *
  generalize hoSG xs = N at *
  go_enter Try.func31, Try.ntmps31
  go_upto_region 1 with fail
  have hR : Blk (w.alloc (.cells #[.int .i64 0, .int .i64 0, .int .u32 0, .int .u32 0, .int .i64 0, .int .i64 0, .int .i64 0, .int .i64 0] 50)) w.heap.size #[.int .i64 0, .int .i64 0, .int .u32 0, .int .u32 0, .int .i64 0, .int .i64 0, .int .i64 0, .int .i64 0] 50 := Blk.new _ _ _ _ rfl
  have g0 : Grew w (w.alloc (.cells #[.int .i64 0, .int .i64 0, .int .u32 0, .int .u32 0, .int .i64 0, .int .i64 0, .int .i64 0, .int .i64 0] 50)) := (Grew.refl _).alloc _
  generalize (w.alloc (.cells #[.int .i64 0, .int .i64 0, .int .u32 0, .int .u32 0, .int .i64 0, .int .i64 0, .int .i64 0, .int .i64 0] 50)) = w0 at *
  generalize hlR : w.heap.size = R at *
  go_wp2_with fail
  refine (HT0.out w0 g0).mono ?_
  rintro e wx ⟨rfl, hx⟩
  obtain rfl := hx.symm
  go_wp2_with fail
  refine (HM.out w0 g0).mono ?_
  rintro e wx ⟨rfl, hx⟩
  obtain rfl := hx.symm
  have x0 := hR.cell 0
  have x1 := hR.cell 1
  have x2 := hR.cell 2
  have x3 := hR.cell 3
  have x4 := hR.cell 4
  have x5 := hR.cell 5
  have x6 := hR.cell 6
  have x7 := hR.cell 7
  have f0 := hR.free 0
  have f1 := hR.free 1
  have f2 := hR.free 2
  have f3 := hR.free 3
  have f4 := hR.free 4
  have f5 := hR.free 5
  have f6 := hR.free 6
  have f7 := hR.free 7
  go_wp2_with fail
  have E := ((((((((hR.set (o := 0) (.int .i64 0)).set (o := 1) (.int .i64 0)).set (o := 2) (.int .u32 0)).set (o := 3) (.int .u32 0)).set (o := 4) (.int .i64 0)).set (o := 5) (.int .i64 0)).set (o := 6) (.int .i64 0)).set (o := 7) (.int .i64 0))
  have GE := ((((((((g0.setCell (b := R) (o := 0) (by omega) (.int .i64 0)).setCell (b := R) (o := 1) (by omega) (.int .i64 0)).setCell (b := R) (o := 2) (by omega) (.int .u32 0)).setCell (b := R) (o := 3) (by omega) (.int .u32 0)).setCell (b := R) (o := 4) (by omega) (.int .i64 0)).setCell (b := R) (o := 5) (by omega) (.int .i64 0)).setCell (b := R) (o := 6) (by omega) (.int .i64 0)).setCell (b := R) (o := 7) (by omega) (.int .i64 0))
  have e0 := E.cell 0
  have e1 := E.cell 1
  have e2 := E.cell 2
  have e3 := E.cell 3
  have e4 := E.cell 4
  have e5 := E.cell 5
  have e6 := E.cell 6
  have e7 := E.cell 7
  exact bodyPost_ret (v := .tuple #[.agg #[.int .i64 0, .int .i64 0, .int .u32 0, .int .u32 0, .int .i64 0, .int .i64 0, .int .i64 0, .int .i64 0], .bool false]) (by simp [results, Try.results31, go_sem, e0, e1, e2, e3, e4, e5, e6, e7]) rfl ⟨rfl, GE⟩
theorem and63 (y : Int) (h : 0 ≤ y ∧ y < 256) : bits .and .u8 y 63 = y % 64 := by
  obtain ⟨n, rfl⟩ : ∃ n : Nat, y = (n : Int) := ⟨y.toNat, by omega⟩
  have := (by decide +kernel : ∀ b : Fin 256, bits .and .u8 ((b.val : Nat) : Int) 63 = ((b.val : Nat) : Int) % 64) ⟨n, by omega⟩
  exact this
set_option maxHeartbeats 4000000 in
theorem headAt_yes {a : Option Addr} {n c : Nat} {xs : List Int} (h20 : 20 ≤ hoSG xs) (hle : hoSG xs ≤ xs.length) (hms : (mssV (cutL xs 20 (hoSG xs))).2 = true) {w : World} (hb : Buf w (.slice a n c) xs) :
    Calls Try.prog 31 #[.slice a n c] w fun e w' => e = .returned (.tuple #[.agg #[.int .i64 (getV (cutL xs 0 2) true), .int .i64 (getV (cutL xs 2 4) true), .int .u32 (getV (cutL xs 4 8) true), .int .u32 (getV (cutL xs 8 12) true), .int .i64 (hoSG xs : Nat), .int .i64 (xs.getD 13 0 % 64), .int .i64 (getV (cutL xs 14 16) true), .int .i64 (mssV (cutL xs 20 (hoSG xs))).1], .bool true]) ∧ Grew w w' := by
  have hn := hb.lenEq.1
  have h60 : hoSG xs ≤ 60 := by have := hb.ok.getD 12; unfold hoSG; omega
  have HT0 := Lib.hid (fun w' (g : Grew w w') => sgTold_c (by omega) w' (hb.grew g))
  obtain ⟨a2, c2, H2, z1, hrun, z3, z4⟩ := hb.run_cut (lo := 20) (hi := hoSG xs) h20 hle
  have r2 : ∀ w', (Instr.sliceAt 23 (.slice a n c) (some (.int .i64 20)) (some (.int .i64 (hoSG xs : Nat))) none).run Try.prog w' = .ok (.slice a2 (hoSG xs - 20) c2) w' := hrun .i64 .i64
  clear z1 z3 z4 hrun
  have hM := Lib.hid (mssV_lt (hb.ok.cut 20 (hoSG xs)))
  have HM := Lib.hid (fun w' (g : Grew w w') => mssIn_c (by rw [cutL_length h20 hle]; omega) (H2.grew g))
  rw [hms] at HM
  have HC0 := Lib.hid (fun w' (g : Grew w w') => sgPairAt_c 0 0 2 (by rfl) (by rfl) (by omega) w' (hb.grew g))
  have HC1 := Lib.hid (fun w' (g : Grew w w') => sgPairAt_c 2 2 4 (by rfl) (by rfl) (by omega) w' (hb.grew g))
  have HC2 := Lib.hid (fun w' (g : Grew w w') => sgLongAt_c 4 4 8 (by rfl) (by rfl) (by omega) w' (hb.grew g))
  have HC3 := Lib.hid (fun w' (g : Grew w w') => sgLongAt_c 8 8 12 (by rfl) (by rfl) (by omega) w' (hb.grew g))
  have HC4 := Lib.hid (fun w' (g : Grew w w') => sgPairAt_c 14 14 16 (by rfl) (by rfl) (by omega) w' (hb.grew g))
  have hz := hb.ok.getD 13
  obtain ⟨a', c', ea, _, ha⟩ := hb.shape
  obtain ⟨bk, off, rfl, hat⟩ := ha (by rintro rfl; simp at hle; omega)
  simp only [Value.slice.injEq] at ea
  obtain ⟨rfl, -, -⟩ := ea
  have XC := Lib.hid (fun w' (g : Grew w w') => (hat.grew g) 13 (by omega))
  have EW0 := Lib.hid (and63 _ hz)
  have EW := Lib.hid (show IntKind.i64.wrap (xs.getD 13 0 % 64) = xs.getD 13 0 % 64 from IntWalk.i64_in _ (by omega))
  have hn13 : (13 : Int) < (n : Nat) := by omega
  clear hb h20 hle hms h60 H2 hM hat ha hn
  generalize (mssV (cutL xs 20 (hoSG xs))).1 = M at *
  generalize hoSG xs = N at *
  generalize getV (cutL xs 0 2) true = y0 at *
  generalize getV (cutL xs 2 4) true = y1 at *
  generalize getV (cutL xs 4 8) true = y2 at *
  generalize getV (cutL xs 8 12) true = y3 at *
  generalize getV (cutL xs 14 16) true = y4 at *
  generalize xs.getD 13 0 = yf at *
  go_enter Try.func31, Try.ntmps31
  go_upto_region 1 with fail
  have hR : Blk (w.alloc (.cells #[.int .i64 0, .int .i64 0, .int .u32 0, .int .u32 0, .int .i64 0, .int .i64 0, .int .i64 0, .int .i64 0] 50)) w.heap.size #[.int .i64 0, .int .i64 0, .int .u32 0, .int .u32 0, .int .i64 0, .int .i64 0, .int .i64 0, .int .i64 0] 50 := Blk.new _ _ _ _ rfl
  have g0 : Grew w (w.alloc (.cells #[.int .i64 0, .int .i64 0, .int .u32 0, .int .u32 0, .int .i64 0, .int .i64 0, .int .i64 0, .int .i64 0] 50)) := (Grew.refl _).alloc _
  generalize (w.alloc (.cells #[.int .i64 0, .int .i64 0, .int .u32 0, .int .u32 0, .int .i64 0, .int .i64 0, .int .i64 0, .int .i64 0] 50)) = w0 at *
  generalize hlR : w.heap.size = R at *
  have HR0 := Lib.hid (hR.drew)
  go_wp2_with fail
  refine (HT0.out w0 g0).mono ?_
  rintro e wx ⟨rfl, hx⟩
  obtain rfl := hx.symm
  go_wp2_with fail
  refine (HM.out w0 g0).mono ?_
  rintro e wx ⟨rfl, hx⟩
  obtain rfl := hx.symm
  clear HT0 HM hR
  go_upto_region 5 with fail
  refine wp_region_held_drew (S := fun w' => Grew w w') (by kernel_rfl) (by exact g0.drew1) (fun hHeld => ?_)
  replace hHeld : Grew w w0.drew := hHeld
  generalize w0.drew = wd0 at *
  refine wpAnyH_take (i := 0) (v := ?_) rfl (by kernel_rfl) (by kernel_rfl) (by kernel_rfl) (fun _ _ _ h => h) (Or.inl ⟨by rfl, ?_⟩) hHeld ?_
  rotate_left
  · intro wq hSw
    replace hSw : Grew w wq := hSw
    go_simp
    try with_reducible rfl
  try simp only [List.getElem_toArray, List.getElem_cons_succ, List.getElem_cons_zero, Act.put, List.setIfInBounds_toArray, List.set_cons_zero, List.set_cons_succ]
  refine wpAnyH_take (i := 2) (v := ?_) rfl (by kernel_rfl) (by kernel_rfl) (by kernel_rfl) (fun _ _ _ h => h) (Or.inl ⟨by rfl, ?_⟩) hHeld ?_
  rotate_left
  · intro wq hSw
    replace hSw : Grew w wq := hSw
    go_simp
    try with_reducible rfl
  try simp only [List.getElem_toArray, List.getElem_cons_succ, List.getElem_cons_zero, Act.put, List.setIfInBounds_toArray, List.set_cons_zero, List.set_cons_succ]
  refine wpAnyH_take (i := 4) (v := ?_) rfl (by kernel_rfl) (by kernel_rfl) (by kernel_rfl) (fun _ _ _ h => h) (Or.inl ⟨by rfl, ?_⟩) hHeld ?_
  rotate_left
  · intro wq hSw
    replace hSw : Grew w wq := hSw
    go_simp
    try with_reducible rfl
  try simp only [List.getElem_toArray, List.getElem_cons_succ, List.getElem_cons_zero, Act.put, List.setIfInBounds_toArray, List.set_cons_zero, List.set_cons_succ]
  refine wpAnyH_take (i := 6) (v := ?_) rfl (by kernel_rfl) (by kernel_rfl) (by kernel_rfl) (fun _ _ _ h => h) (Or.inl ⟨by rfl, ?_⟩) hHeld ?_
  rotate_left
  · intro wq hSw
    replace hSw : Grew w wq := hSw
    go_simp
    try with_reducible rfl
  try simp only [List.getElem_toArray, List.getElem_cons_succ, List.getElem_cons_zero, Act.put, List.setIfInBounds_toArray, List.set_cons_zero, List.set_cons_succ]
  refine wpAnyH_take (i := 8) (v := ?_) rfl (by kernel_rfl) (by kernel_rfl) (by kernel_rfl) (fun _ _ _ h => h) (Or.inl ⟨by rfl, ?_⟩) hHeld ?_
  rotate_left
  · intro wq hSw
    replace hSw : Grew w wq := hSw
    go_simp
    try with_reducible rfl
  try simp only [List.getElem_toArray, List.getElem_cons_succ, List.getElem_cons_zero, Act.put, List.setIfInBounds_toArray, List.set_cons_zero, List.set_cons_succ]
  refine wpAnyH_take (i := 9) (v := ?_) rfl (by kernel_rfl) (by kernel_rfl) (by kernel_rfl) (fun _ _ _ h => h) (Or.inl ⟨by rfl, ?_⟩) hHeld ?_
  rotate_left
  · intro wq hSw
    replace hSw : Grew w wq := hSw
    go_simp
    try with_reducible rfl
  try simp only [List.getElem_toArray, List.getElem_cons_succ, List.getElem_cons_zero, Act.put, List.setIfInBounds_toArray, List.set_cons_zero, List.set_cons_succ]
  refine wpAnyH_take (i := 10) (v := ?_) rfl (by kernel_rfl) (by kernel_rfl) (by kernel_rfl) (fun _ _ _ h => h) (Or.inl ⟨by rfl, ?_⟩) hHeld ?_
  rotate_left
  · intro wq hSw
    replace hSw : Grew w wq := hSw
    have xlen : (13 : Int) < (n : Nat) := hn13
    go_simp
    try with_reducible rfl
  try simp only [List.getElem_toArray, List.getElem_cons_succ, List.getElem_cons_zero, Act.put, List.setIfInBounds_toArray, List.set_cons_zero, List.set_cons_succ]
  refine wpAnyH_take (i := 11) (v := ?_) rfl (by kernel_rfl) (by kernel_rfl) (by kernel_rfl) (fun _ _ _ h => h) (Or.inl ⟨by rfl, ?_⟩) hHeld ?_
  rotate_left
  · intro wq hSw
    replace hSw : Grew w wq := hSw
    have xc := XC.out _ hSw
    go_simp
    try with_reducible rfl
  try simp only [List.getElem_toArray, List.getElem_cons_succ, List.getElem_cons_zero, Act.put, List.setIfInBounds_toArray, List.set_cons_zero, List.set_cons_succ]
  refine wpAnyH_take (i := 12) (v := ?_) rfl (by kernel_rfl) (by kernel_rfl) (by kernel_rfl) (fun _ _ _ h => h) (Or.inl ⟨by rfl, ?_⟩) hHeld ?_
  rotate_left
  · intro wq hSw
    replace hSw : Grew w wq := hSw
    have ew := EW0.out
    go_simp
    try with_reducible rfl
  try simp only [List.getElem_toArray, List.getElem_cons_succ, List.getElem_cons_zero, Act.put, List.setIfInBounds_toArray, List.set_cons_zero, List.set_cons_succ]
  refine wpAnyH_take (i := 13) (v := ?_) rfl (by kernel_rfl) (by kernel_rfl) (by kernel_rfl) (fun _ _ _ h => h) (Or.inl ⟨by rfl, ?_⟩) hHeld ?_
  rotate_left
  · intro wq hSw
    replace hSw : Grew w wq := hSw
    have ew := EW.out
    go_simp
    try with_reducible rfl
  try simp only [List.getElem_toArray, List.getElem_cons_succ, List.getElem_cons_zero, Act.put, List.setIfInBounds_toArray, List.set_cons_zero, List.set_cons_succ]
  refine wpAnyH_take (i := 14) (v := ?_) rfl (by kernel_rfl) (by kernel_rfl) (by kernel_rfl) (fun _ _ _ h => h) (Or.inl ⟨by rfl, ?_⟩) hHeld ?_
  rotate_left
  · intro wq hSw
    replace hSw : Grew w wq := hSw
    go_simp
    try with_reducible rfl
  try simp only [List.getElem_toArray, List.getElem_cons_succ, List.getElem_cons_zero, Act.put, List.setIfInBounds_toArray, List.set_cons_zero, List.set_cons_succ]
  refine wpAnyH_take (i := 16) (v := ?_) rfl (by kernel_rfl) (by kernel_rfl) (by kernel_rfl) (fun _ _ _ h => h) (Or.inl ⟨by rfl, ?_⟩) hHeld ?_
  rotate_left
  · intro wq hSw
    replace hSw : Grew w wq := hSw
    go_simp
    try with_reducible rfl
  try simp only [List.getElem_toArray, List.getElem_cons_succ, List.getElem_cons_zero, Act.put, List.setIfInBounds_toArray, List.set_cons_zero, List.set_cons_succ]
  refine wpAnyH_ready (rs := [1]) (by kernel_rfl) (by simp) ?_
  refine AllReadyH.cons rfl (fun K hK => ?_) AllReadyH.nil
  go_simp
  refine (HC0.out wd0 hHeld).mono ?_
  rintro e wy ⟨rfl, hsame⟩
  obtain rfl := hsame.symm
  refine hK.out _ _ (hHeld) (fun hHeld => ?_)
  clear hK K
  try simp only [List.getElem_toArray, List.getElem_cons_succ, List.getElem_cons_zero, Act.put, List.setIfInBounds_toArray, List.set_cons_zero, List.set_cons_succ]
  refine wpAnyH_ready (rs := [3]) (by kernel_rfl) (by simp) ?_
  refine AllReadyH.cons rfl (fun K hK => ?_) AllReadyH.nil
  go_simp
  refine (HC1.out wd0 hHeld).mono ?_
  rintro e wy ⟨rfl, hsame⟩
  obtain rfl := hsame.symm
  refine hK.out _ _ (hHeld) (fun hHeld => ?_)
  clear hK K
  try simp only [List.getElem_toArray, List.getElem_cons_succ, List.getElem_cons_zero, Act.put, List.setIfInBounds_toArray, List.set_cons_zero, List.set_cons_succ]
  refine wpAnyH_ready (rs := [5]) (by kernel_rfl) (by simp) ?_
  refine AllReadyH.cons rfl (fun K hK => ?_) AllReadyH.nil
  go_simp
  refine (HC2.out wd0 hHeld).mono ?_
  rintro e wy ⟨rfl, hsame⟩
  obtain rfl := hsame.symm
  refine hK.out _ _ (hHeld) (fun hHeld => ?_)
  clear hK K
  try simp only [List.getElem_toArray, List.getElem_cons_succ, List.getElem_cons_zero, Act.put, List.setIfInBounds_toArray, List.set_cons_zero, List.set_cons_succ]
  refine wpAnyH_ready (rs := [7]) (by kernel_rfl) (by simp) ?_
  refine AllReadyH.cons rfl (fun K hK => ?_) AllReadyH.nil
  go_simp
  refine (HC3.out wd0 hHeld).mono ?_
  rintro e wy ⟨rfl, hsame⟩
  obtain rfl := hsame.symm
  refine hK.out _ _ (hHeld) (fun hHeld => ?_)
  clear hK K
  try simp only [List.getElem_toArray, List.getElem_cons_succ, List.getElem_cons_zero, Act.put, List.setIfInBounds_toArray, List.set_cons_zero, List.set_cons_succ]
  refine wpAnyH_ready (rs := [15]) (by kernel_rfl) (by simp) ?_
  refine AllReadyH.cons rfl (fun K hK => ?_) AllReadyH.nil
  go_simp
  refine (HC4.out wd0 hHeld).mono ?_
  rintro e wy ⟨rfl, hsame⟩
  obtain rfl := hsame.symm
  refine hK.out _ _ (hHeld) (fun hHeld => ?_)
  clear hK K
  try simp only [List.getElem_toArray, List.getElem_cons_succ, List.getElem_cons_zero, Act.put, List.setIfInBounds_toArray, List.set_cons_zero, List.set_cons_succ]
  refine wpAnyH_take (i := 17) (v := ?_) rfl (by kernel_rfl) (by kernel_rfl) (by kernel_rfl) (fun _ _ _ h => h) (Or.inl ⟨by rfl, ?_⟩) hHeld ?_
  rotate_left
  · intro wq hSw
    replace hSw : Grew w wq := hSw
    go_simp
    try with_reducible rfl
  try simp only [List.getElem_toArray, List.getElem_cons_succ, List.getElem_cons_zero, Act.put, List.setIfInBounds_toArray, List.set_cons_zero, List.set_cons_succ]
  refine wpAnyH_ready (rs := [18]) (by kernel_rfl) (by simp) ?_
  refine AllReadyH.cons rfl (fun K hK => ?_) AllReadyH.nil
  have hRk := HR0.out
  have x0 := hRk.cell 0
  have x1 := hRk.cell 1
  have x2 := hRk.cell 2
  have x3 := hRk.cell 3
  have x4 := hRk.cell 4
  have x5 := hRk.cell 5
  have x6 := hRk.cell 6
  have x7 := hRk.cell 7
  have q0 := hRk.free 0
  have q1 := hRk.free 1
  have q2 := hRk.free 2
  have q3 := hRk.free 3
  have q4 := hRk.free 4
  have q5 := hRk.free 5
  have q6 := hRk.free 6
  have q7 := hRk.free 7
  go_simp
  have EB := Lib.hid ((((((((hRk.set (o := 0) (.int .i64 y0)).set (o := 1) (.int .i64 y1)).set (o := 2) (.int .u32 y2)).set (o := 3) (.int .u32 y3)).set (o := 4) (.int .i64 (N : Nat))).set (o := 5) (.int .i64 (yf % 64))).set (o := 6) (.int .i64 y4)).set (o := 7) (.int .i64 M))
  have GE := ((((((((hHeld.setCell (b := R) (o := 0) (by omega) (.int .i64 y0)).setCell (b := R) (o := 1) (by omega) (.int .i64 y1)).setCell (b := R) (o := 2) (by omega) (.int .u32 y2)).setCell (b := R) (o := 3) (by omega) (.int .u32 y3)).setCell (b := R) (o := 4) (by omega) (.int .i64 (N : Nat))).setCell (b := R) (o := 5) (by omega) (.int .i64 (yf % 64))).setCell (b := R) (o := 6) (by omega) (.int .i64 y4)).setCell (b := R) (o := 7) (by omega) (.int .i64 M))
  refine hK.out _ _ (GE) (fun hHeld => ?_)
  clear hK K
  try simp only [List.getElem_toArray, List.getElem_cons_succ, List.getElem_cons_zero, Act.put, List.setIfInBounds_toArray, List.set_cons_zero, List.set_cons_succ]
  refine wpAnyH_take (i := 19) (v := ?_) rfl (by kernel_rfl) (by kernel_rfl) (by kernel_rfl) (fun _ _ _ h => h) (Or.inl ⟨by rfl, ?_⟩) hHeld ?_
  rotate_left
  · intro wq hSw
    replace hSw : Grew w wq := hSw
    go_simp
    try with_reducible rfl
  try simp only [List.getElem_toArray, List.getElem_cons_succ, List.getElem_cons_zero, Act.put, List.setIfInBounds_toArray, List.set_cons_zero, List.set_cons_succ]
  refine wpAnyH_done (by kernel_rfl) ?_ _
  try simp only [List.getElem_toArray, List.getElem_cons_succ, List.getElem_cons_zero, Act.put, List.setIfInBounds_toArray, List.set_cons_zero, List.set_cons_succ]
  have E := EB.out
  have e0 := E.cell 0
  have e1 := E.cell 1
  have e2 := E.cell 2
  have e3 := E.cell 3
  have e4 := E.cell 4
  have e5 := E.cell 5
  have e6 := E.cell 6
  have e7 := E.cell 7
  go_wp2_with fail
  exact bodyPost_ret (v := .tuple #[.agg #[.int .i64 y0, .int .i64 y1, .int .u32 y2, .int .u32 y3, .int .i64 (N : Nat), .int .i64 (yf % 64), .int .i64 y4, .int .i64 M], .bool true]) (by simp [results, Try.results31, go_sem, e0, e1, e2, e3, e4, e5, e6, e7]) rfl ⟨rfl, hHeld⟩
end Go.Proofs.Ytiaejlbkdgcfiaa
