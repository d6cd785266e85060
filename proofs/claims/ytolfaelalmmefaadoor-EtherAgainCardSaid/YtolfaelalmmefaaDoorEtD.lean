/-
  Package ether: frame, Get, message, GetArp, of all bytes.
-/
import Derived.Test.YtolfaelalmmefaaDoorEtC
set_option maxRecDepth 4000
set_option linter.unusedVariables false
set_option linter.unusedSimpArgs false
namespace Go.Proofs.YtolfaelalmmefaaDoor
open Go.RowKit

def noU8 (cs : Array Value) : Bool := cs.toList.all fun v => match v with | .int .u8 _ => false | _ => true
theorem noU8_at {cs : Array Value} (h : noU8 cs = true) (k : Nat) (x : Int) : cs[k]? ≠ some (.int .u8 x) := by
  intro e
  have := List.all_eq_true.1 h (.int .u8 x) (Array.mem_toList_iff.2 (Array.mem_of_getElem? e))
  cases this
/-- A store into a box that holds no bytes: no bytes turn. -/
theorem BufsKept.box {w : World} {X o : Nat} {cs : Array Value} {T : TypeId} (hX : Blk w X cs T) (hc : noU8 cs = true) (u : Value) : BufsKept w (w.setCell ⟨X, o, none⟩ u) := fun v xs h => by
  obtain ⟨a', c', rfl, hc', ha⟩ := h.shape
  refine ⟨⟨a', c', rfl, hc', fun hx => ?_⟩, h.ok, h.len⟩
  obtain ⟨b, off, rfl, hb⟩ := ha hx
  refine ⟨b, off, rfl, fun i hi => ?_⟩
  have h1 := hb i hi
  by_cases he : b = X
  · subst he
    rw [hX.cell] at h1
    exact absurd h1 (noU8_at hc _ _)
  · rw [← h1]
    exact World.cell?_of_block (Below.heap_setCell w ⟨X, o, none⟩ u b he)
theorem BufsKept.drew {w w' : World} (h : BufsKept w w') : BufsKept w w'.drew := fun v xs hb => (h v xs hb).drew

set_option maxHeartbeats 1000000 in
theorem frame_ok (a : Option Addr) (n c : Nat) (xs : List Int) (hs : ¬ ((n : Int) < 14)) (hl : ¬ ((1514 : Int) < (n : Nat))) {w : World} (hb : Buf w (.slice a n c) xs) :
    Calls Tryd.prog 22 #[.slice a n c] w fun e w' => ∃ u, e = .returned (.tuple #[u, .nilIface]) ∧ Fr w' u (frOf xs) ∧ Grew w w' := by
  have hn := hb.lenEq.1
  have hp := fun w' (g : Grew w w') => partsOf_c (by omega) (hb.grew g)
  have HP := Lib.hid hp
  have hok := hb.ok
  have HN := Lib.hid hn
  have HOK := Lib.hid hok
  clear hp hb hn hok
  go_enter Tryd.func22, Tryd.ntmps22
  go_upto_region 1 with fail
  have hR : Blk (w.alloc (.cells #[.slice none 0 0, .slice none 0 0, .int .i64 0, .slice none 0 0] 25)) w.heap.size #[.slice none 0 0, .slice none 0 0, .int .i64 0, .slice none 0 0] 25 := Blk.new _ _ _ _ rfl
  have g0 : Grew w (w.alloc (.cells #[.slice none 0 0, .slice none 0 0, .int .i64 0, .slice none 0 0] 25)) := (Grew.refl _).alloc _
  generalize (w.alloc (.cells #[.slice none 0 0, .slice none 0 0, .int .i64 0, .slice none 0 0] 25)) = w0 at *
  generalize hlR : w.heap.size = R at *
  go_wp2_with fail
  refine (HP.out _ g0).mono ?_
  rintro e w1 ⟨P, rfl, hPR, hP, g1⟩
  have hRP : R ≠ P := by have := hR.lt; omega
  have hR1 := hR.grew g1
  have G1 := g0.trans g1
  go_wp2_with fail
  have hn := HN.out
  refine (mac_c (by omega) hP).mono ?_
  rintro e w2 ⟨pa, ca, rfl, ba, t2⟩
  have l2 : (cutL xs 6 xs.length).length = xs.length - 6 := cutL_length (by omega) (Nat.le_refl _)
  go_wp2_with fail
  refine (mac_c (by rw [l2]; omega) t2.parts).mono ?_
  rintro e w3 ⟨pb, cb, rfl, bb, t3⟩
  rw [cut_zero_all xs (by omega) (Nat.le_refl _) 6 (by omega), show 6 + 6 = 12 from rfl] at bb
  rw [l2, cut_cut xs (by omega) (Nat.le_refl _) 6 (by omega), show 6 + 6 = 12 from rfl] at t3
  have l3 : (cutL xs 12 xs.length).length = xs.length - 12 := cutL_length (by omega) (Nat.le_refl _)
  go_wp2_with fail
  refine (partPair_c (by rw [l3]; omega) t3.parts).mono ?_
  rintro e w4 ⟨rfl, t4⟩
  rw [cut_zero_all xs (by omega) (Nat.le_refl _) 2 (by omega), show 12 + 2 = 14 from rfl]
  rw [l3, cut_cut xs (by omega) (Nat.le_refl _) 2 (by omega), show 12 + 2 = 14 from rfl] at t4
  have l4 : (cutL xs 14 xs.length).length = xs.length - 14 := cutL_length (by omega) (Nat.le_refl _)
  go_wp2_with fail
  refine (rest_c t4.parts).mono ?_
  rintro e w5 ⟨pd, cd, rfl, bd, t5⟩
  rw [l4, ← hn] at bd ⊢
  have o5 := ((t2.only.trans t3.only).trans t4.only).trans t5.only
  have hR5 := hR1.only o5 hRP
  have G5 : Grew w w5 := o5.grew G1 (by have := g0.size; omega)
  have ba5 := t5.kept _ _ (t4.kept _ _ (t3.kept _ _ ba))
  have bb5 := t5.kept _ _ (t4.kept _ _ bb)
  have hT : intI (getV (cutL xs 12 14) true) := by
    have := getG_lt (HOK.out.cut 12 14) true (n := 2) (cutL_length (by omega) (by omega)) (by omega)
    unfold intI; omega
  have HA := Lib.hid ba5
  have HB := Lib.hid bb5
  have HD := Lib.hid (show Buf w5 (.slice pd (n - 14) cd) (cutL xs 14 xs.length) from by rw [← hn]; exact bd)
  have HT := Lib.hid hT
  clear ba bb bd t2 t3 t4 t5 ba5 bb5 l2 l3 l4 o5 hR1 G1 hP hT hn
  have f0 := hR5.free 0
  have f1 := hR5.free 1
  have f2 := hR5.free 2
  have f3 := hR5.free 3
  have y0 := hR5.cell 0
  have y1 := hR5.cell 1
  have y2 := hR5.cell 2
  have y3 := hR5.cell 3
  go_wp2_with fail
  have E := ((((hR5.set (o := 0) (.slice pa 6 ca)).set (o := 1) (.slice pb 6 cb)).set (o := 2) (.int .i64 (getV (cutL xs 12 14) true))).set (o := 3) (.slice pd (n - 14) cd))
  have K := ((((BufsKept.box (o := 0) hR5 (by simp [noU8]) (.slice pa 6 ca)).trans (BufsKept.box (o := 1) (hR5.set (o := 0) (.slice pa 6 ca)) (by simp [noU8]) (.slice pb 6 cb))).trans (BufsKept.box (o := 2) ((hR5.set (o := 0) (.slice pa 6 ca)).set (o := 1) (.slice pb 6 cb)) (by simp [noU8]) (.int .i64 (getV (cutL xs 12 14) true)))).trans (BufsKept.box (o := 3) (((hR5.set (o := 0) (.slice pa 6 ca)).set (o := 1) (.slice pb 6 cb)).set (o := 2) (.int .i64 (getV (cutL xs 12 14) true))) (by simp [noU8]) (.slice pd (n - 14) cd)))
  have GE := ((((G5.setCell (b := R) (o := 0) (by have := g0.size; omega) (.slice pa 6 ca)).setCell (b := R) (o := 1) (by have := g0.size; omega) (.slice pb 6 cb)).setCell (b := R) (o := 2) (by have := g0.size; omega) (.int .i64 (getV (cutL xs 12 14) true))).setCell (b := R) (o := 3) (by have := g0.size; omega) (.slice pd (n - 14) cd))
  have z0 := E.cell 0
  have z1 := E.cell 1
  have z2 := E.cell 2
  have z3 := E.cell 3
  have hfr := Fr.of (K _ _ HA.out) (K _ _ HB.out) (K _ _ HD.out) HT.out
  exact bodyPost_ret (v := .tuple #[.agg #[.slice pa 6 ca, .slice pb 6 cb, .int .i64 (getV (cutL xs 12 14) true), .slice pd (n - 14) cd], .nilIface]) (by simp [results, Tryd.results22, go_sem, z0, z1, z2, z3]) rfl ⟨_, rfl, hfr, GE⟩
set_option maxHeartbeats 1000000 in
theorem get_with {v E : Value} {f : FR} (q : Int) {w : World}
    (HF : ∀ w', Grew w w' → Calls Tryd.prog 22 #[v] w' fun e w'' => ∃ u, e = .returned (.tuple #[u, E]) ∧ Fr w'' u f ∧ Grew w' w'')
    (HNb : ∀ w', Grew w w' → Calls Tryd.prog 23 #[E] w' fun e w'' => e = .returned (.int .i64 q) ∧ Grew w' w'') :
    Calls Tryd.prog 9 #[v] w fun e w' => ∃ u, e = .returned (.tuple #[u, .int .i64 q]) ∧ Fr w' u f ∧ Grew w w' := by
  replace HF := Lib.hid HF
  have HNB := Lib.hid HNb
  clear HNb
  go_enter Tryd.func9, Tryd.ntmps9
  go_upto_region 1 with fail
  have hR : Blk (w.alloc (.cells #[.slice none 0 0, .slice none 0 0, .int .i64 0, .slice none 0 0] 25)) w.heap.size #[.slice none 0 0, .slice none 0 0, .int .i64 0, .slice none 0 0] 25 := Blk.new _ _ _ _ rfl
  have g0 : Grew w (w.alloc (.cells #[.slice none 0 0, .slice none 0 0, .int .i64 0, .slice none 0 0] 25)) := (Grew.refl _).alloc _
  generalize (w.alloc (.cells #[.slice none 0 0, .slice none 0 0, .int .i64 0, .slice none 0 0] 25)) = w0 at *
  generalize hlR : w.heap.size = R at *
  go_wp2_with fail
  refine (HF.out _ g0).mono ?_
  rintro e w1 ⟨u, rfl, hu, g1⟩
  have HU := Lib.hid hu
  obtain ⟨p1, k1, p2, k2, p3, k3, rfl, b1, b2, b3⟩ := hu.shape
  have hR1 := hR.grew g1
  have G1 := g0.trans g1
  have hRl := hR1.lt
  clear hu b1 b2 b3
  go_upto_region 2 with fail
  have hR2 := hR1.alloc (.cells #[.slice p1 f.d.length k1, .slice p2 f.s.length k2, .int .i64 f.t, .slice p3 f.x.length k3] 25)
  have hDR : w1.heap.size ≠ R := Nat.ne_of_gt hRl
  have hU2 := HU.out.grew ((Grew.refl w1).alloc (.cells #[.slice p1 f.d.length k1, .slice p2 f.s.length k2, .int .i64 f.t, .slice p3 f.x.length k3] 25))
  have hD2 : Blk (w1.alloc (.cells #[.slice p1 f.d.length k1, .slice p2 f.s.length k2, .int .i64 f.t, .slice p3 f.x.length k3] 25)) w1.heap.size #[.slice p1 f.d.length k1, .slice p2 f.s.length k2, .int .i64 f.t, .slice p3 f.x.length k3] 25 := Blk.new _ _ _ _ rfl
  have g2 : Grew w1 (w1.alloc (.cells #[.slice p1 f.d.length k1, .slice p2 f.s.length k2, .int .i64 f.t, .slice p3 f.x.length k3] 25)) := (Grew.refl _).alloc _
  generalize (w1.alloc (.cells #[.slice p1 f.d.length k1, .slice p2 f.s.length k2, .int .i64 f.t, .slice p3 f.x.length k3] 25)) = w2 at *
  generalize hlD : w1.heap.size = D at *
  have G2 := G1.trans g2
  have HU2 := Lib.hid (hU2.grew ((Grew.refl w2).drew1))
  have G2q := G2.drew1
  have hR2q := hR2.drew
  have hD2q := hD2.drew
  clear hU2 G2 hR2 hD2 g2
  refine wp_region_held_drew (S := fun w' => Blk w' D #[.slice p1 f.d.length k1, .slice p2 f.s.length k2, .int .i64 f.t, .slice p3 f.x.length k3] 25) (by kernel_rfl) (by exact hD2q) (fun hHeld => ?_)
  replace hHeld : Blk w2.drew D #[.slice p1 f.d.length k1, .slice p2 f.s.length k2, .int .i64 f.t, .slice p3 f.x.length k3] 25 := hHeld
  generalize w2.drew = wq0 at *
  refine wpAnyH_take (i := 0) (v := ?_) rfl (by kernel_rfl) (by kernel_rfl) (by kernel_rfl) (fun _ _ _ h => h) (Or.inl ⟨by rfl, ?_⟩) hHeld ?_
  rotate_left
  · intro wq hSw
    replace hSw : Blk wq D #[.slice p1 f.d.length k1, .slice p2 f.s.length k2, .int .i64 f.t, .slice p3 f.x.length k3] 25 := hSw
    have y0 := hSw.cell 0
    have y1 := hSw.cell 1
    have y2 := hSw.cell 2
    have y3 := hSw.cell 3
    go_simp
    try with_reducible rfl
  try simp only [List.getElem_toArray, List.getElem_cons_succ, List.getElem_cons_zero, Act.put, List.setIfInBounds_toArray, List.set_cons_zero, List.set_cons_succ]
  refine wpAnyH_take (i := 1) (v := ?_) rfl (by kernel_rfl) (by kernel_rfl) (by kernel_rfl) (fun _ _ _ h => h) (Or.inl ⟨by rfl, ?_⟩) hHeld ?_
  rotate_left
  · intro wq hSw
    replace hSw : Blk wq D #[.slice p1 f.d.length k1, .slice p2 f.s.length k2, .int .i64 f.t, .slice p3 f.x.length k3] 25 := hSw
    go_simp
    try with_reducible rfl
  try simp only [List.getElem_toArray, List.getElem_cons_succ, List.getElem_cons_zero, Act.put, List.setIfInBounds_toArray, List.set_cons_zero, List.set_cons_succ]
  refine wpAnyH_ready (rs := [2]) (by kernel_rfl) (by simp) ?_
  refine AllReadyH.cons rfl (fun K hK => ?_) AllReadyH.nil
  go_simp
  refine (HNB.out _ G2q).mono ?_
  rintro e w3 ⟨rfl, g3⟩
  have G3 := G2q.trans g3
  have hR3 := hR2q.grew g3
  have hD3 := hD2q.grew g3
  have b3 := g3
  have f0 := hR3.free 0
  have f1 := hR3.free 1
  have f2 := hR3.free 2
  have f3 := hR3.free 3
  have x0 := hR3.cell 0
  have x1 := hR3.cell 1
  have x2 := hR3.cell 2
  have x3 := hR3.cell 3
  refine hK.out _ _ (hD3) (fun hHeld => ?_)
  clear hK K
  try simp only [List.getElem_toArray, List.getElem_cons_succ, List.getElem_cons_zero, Act.put, List.setIfInBounds_toArray, List.set_cons_zero, List.set_cons_succ]
  refine wpAnyH_ready (rs := [3]) (by kernel_rfl) (by simp) ?_
  refine AllReadyH.cons rfl (fun K hK => ?_) AllReadyH.nil
  go_simp
  refine hK.out _ _ (((((hD3.other (c := R) (o := 0) hDR (.slice p1 f.d.length k1)).other (c := R) (o := 1) hDR (.slice p2 f.s.length k2)).other (c := R) (o := 2) hDR (.int .i64 f.t)).other (c := R) (o := 3) hDR (.slice p3 f.x.length k3))) (fun hHeld => ?_)
  clear hK K
  try simp only [List.getElem_toArray, List.getElem_cons_succ, List.getElem_cons_zero, Act.put, List.setIfInBounds_toArray, List.set_cons_zero, List.set_cons_succ]
  refine wpAnyH_ready (rs := [4]) (by kernel_rfl) (by simp) ?_
  refine AllReadyH.cons rfl (fun K hK => ?_) AllReadyH.nil
  go_simp
  refine hK.out _ _ hHeld (fun hHeld => ?_)
  clear hK K
  try simp only [List.getElem_toArray, List.getElem_cons_succ, List.getElem_cons_zero, Act.put, List.setIfInBounds_toArray, List.set_cons_zero, List.set_cons_succ]
  refine wpAnyH_done (by kernel_rfl) ?_ _
  try simp only [List.getElem_toArray, List.getElem_cons_succ, List.getElem_cons_zero, Act.put, List.setIfInBounds_toArray, List.set_cons_zero, List.set_cons_succ]
  go_wp2_with fail
  have EB := ((((hR3.set (o := 0) (.slice p1 f.d.length k1)).set (o := 1) (.slice p2 f.s.length k2)).set (o := 2) (.int .i64 f.t)).set (o := 3) (.slice p3 f.x.length k3))
  have KK := ((((BufsKept.box (o := 0) hR3 (by simp [noU8]) (.slice p1 f.d.length k1)).trans (BufsKept.box (o := 1) (hR3.set (o := 0) (.slice p1 f.d.length k1)) (by simp [noU8]) (.slice p2 f.s.length k2))).trans (BufsKept.box (o := 2) ((hR3.set (o := 0) (.slice p1 f.d.length k1)).set (o := 1) (.slice p2 f.s.length k2)) (by simp [noU8]) (.int .i64 f.t))).trans (BufsKept.box (o := 3) (((hR3.set (o := 0) (.slice p1 f.d.length k1)).set (o := 1) (.slice p2 f.s.length k2)).set (o := 2) (.int .i64 f.t)) (by simp [noU8]) (.slice p3 f.x.length k3)))
  have GE := ((((G3.setCell (b := R) (o := 0) (by have := g0.size; omega) (.slice p1 f.d.length k1)).setCell (b := R) (o := 1) (by have := g0.size; omega) (.slice p2 f.s.length k2)).setCell (b := R) (o := 2) (by have := g0.size; omega) (.int .i64 f.t)).setCell (b := R) (o := 3) (by have := g0.size; omega) (.slice p3 f.x.length k3))
  have z0 := EB.cell 0
  have z1 := EB.cell 1
  have z2 := EB.cell 2
  have z3 := EB.cell 3
  exact bodyPost_ret (v := .tuple #[.agg #[.slice p1 f.d.length k1, .slice p2 f.s.length k2, .int .i64 f.t, .slice p3 f.x.length k3], .int .i64 q]) (by simp [results, Tryd.results9, go_sem, z0, z1, z2, z3]) rfl ⟨_, rfl, ((HU2.out.grew b3).kept KK), GE⟩
end Go.Proofs.YtolfaelalmmefaaDoor
