/-
  Package udp: datagram, Get, of all bytes.
-/
import Derived.Test.YtcaafinjphionaaDoorUdC
import Derived.Test.YtcaafinjphionaaDoorClone
set_option maxRecDepth 4000
set_option linter.unusedVariables false
set_option linter.unusedSimpArgs false
namespace Go.Proofs.YtcaafinjphionaaDoor
open Go.RowKit

set_option maxHeartbeats 1000000 in
theorem datagram_no {v : Value} {w : World} (src dst k : Int) (hc : ∀ w', Grew w w' → Calls Tryd.prog 32 #[v, .int .u32 src, .int .u32 dst] w' fun e w'' => ∃ n' s, e = .returned (.iface 68 (.agg #[.int .i64 k, .int .i64 n', .string s])) ∧ Grew w' w'') :
    Calls Tryd.prog 22 #[v, .int .u32 src, .int .u32 dst] w fun e w' => ∃ u E, e = .returned (.tuple #[u, E]) ∧ (∃ n' s, E = .iface 68 (.agg #[.int .i64 k, .int .i64 n', .string s])) ∧ Ud w' u zU ∧ Grew w w' := by
  have HC := Lib.hid hc
  clear hc
  go_enter Tryd.func22, Tryd.ntmps22
  go_upto_region 1 with fail
  have hR : Blk (w.alloc (.cells #[.int .i64 0, .int .i64 0, .slice none 0 0] 24)) w.heap.size #[.int .i64 0, .int .i64 0, .slice none 0 0] 24 := Blk.new _ _ _ _ rfl
  have g0 : Grew w (w.alloc (.cells #[.int .i64 0, .int .i64 0, .slice none 0 0] 24)) := (Grew.refl _).alloc _
  generalize (w.alloc (.cells #[.int .i64 0, .int .i64 0, .slice none 0 0] 24)) = w0 at *
  generalize hlR : w.heap.size = R at *
  go_wp2_with fail
  refine (HC.out _ g0).mono ?_
  rintro e w1 ⟨n', s, rfl, g1⟩
  have hR1 := hR.grew g1
  have G1 := g0.trans g1
  have y0 := hR1.cell 0
  have y1 := hR1.cell 1
  have y2 := hR1.cell 2
  have f0 := hR1.free 0
  have f1 := hR1.free 1
  have f2 := hR1.free 2
  go_wp2_with fail
  have E := (((hR1.set (o := 0) (.int .i64 0)).set (o := 1) (.int .i64 0)).set (o := 2) (.slice none 0 0))
  have GE := (((G1.setCell (b := R) (o := 0) (by omega) (.int .i64 0)).setCell (b := R) (o := 1) (by omega) (.int .i64 0)).setCell (b := R) (o := 2) (by omega) (.slice none 0 0))
  have z0 := E.cell 0
  have z1 := E.cell 1
  have z2 := E.cell 2
  exact bodyPost_ret (v := .tuple #[.agg #[.int .i64 0, .int .i64 0, .slice none 0 0], .iface 68 (.agg #[.int .i64 k, .int .i64 n', .string s])]) (by simp [results, Tryd.results22, go_sem, z0, z1, z2]) rfl ⟨_, _, rfl, ⟨_, _, rfl⟩, Ud.zero _, GE⟩
set_option maxHeartbeats 4000000 in
theorem datagram_yes (a : Option Addr) (n c : Nat) (xs : List Int) (src dst : Int) (hsr : 0 ≤ src ∧ src < 4294967296) (hdr : 0 ≤ dst ∧ dst < 4294967296) {w : World} (hb : Buf w (.slice a n c) xs) (hc : ∀ w', Grew w w' → Calls Tryd.prog 32 #[.slice a n c, .int .u32 src, .int .u32 dst] w' fun e w'' => e = .returned .nilIface ∧ Grew w' w'') (h1 : ¬ xs.length < 8) (h2 : ¬ nU xs < 8) (h3 : ¬ xs.length < nU xs) :
    Calls Tryd.prog 22 #[.slice a n c, .int .u32 src, .int .u32 dst] w fun e w' => ∃ u, e = .returned (.tuple #[u, .nilIface]) ∧ Ud w' u (udOf xs) ∧ Grew w w' := by
  have hn := hb.lenEq.1
  have hm0 := getG_lt (hb.ok.cut 4 6) true (n := 2) (cutL_length (by omega) (by omega)) (by omega)
  have hm1 := getG_lt (hb.ok.cut 0 2) true (n := 2) (cutL_length (by omega) (by omega)) (by omega)
  have hm2 := getG_lt (hb.ok.cut 2 4) true (n := 2) (cutL_length (by omega) (by omega)) (by omega)
  rw [show (2 : Int) ^ (8 * 2) = 65536 by decide] at hm0 hm1 hm2
  have hM : getV (cutL xs 4 6) true = ((nU xs : Nat) : Int) := by unfold nU; omega
  have HC := Lib.hid hc
  have HH := Lib.hid (fun w' (g : Grew w w') => headAt_c (by omega) (hb.grew g))
  rw [hM] at HH
  have hNB : nU xs ≤ 65535 := by unfold nU; omega
  obtain ⟨a8, c8, H8, z1, hrun, z3, z4⟩ := hb.run_cut (lo := 8) (hi := nU xs) (by omega) (by omega)
  have r8 : ∀ w', (Instr.sliceAt 22 (.slice a n c) (some (.int .i64 8)) (some (.int .i64 (nU xs : Nat))) none).run Tryd.prog w' = .ok (.slice a8 (nU xs - 8) c8) w' := hrun .i64 .i64
  clear z1 z3 z4 hrun
  have hl8 : (cutL xs 8 (nU xs)).length = nU xs - 8 := by rw [cutL_length (by omega) (by omega)]
  have HB8 := Lib.hid H8
  have HL8 := Lib.hid (show (cutL xs 8 (nU xs)).length ≤ 140737488355328 by omega)
  have HF : Hid (udOf xs = ⟨getV (cutL xs 0 2) true, getV (cutL xs 2 4) true, cutL xs 8 (nU xs)⟩) := Lib.hid rfl
  have hi0 : Hid (intI (getV (cutL xs 0 2) true) ∧ intI (getV (cutL xs 2 4) true)) := Lib.hid (by unfold intI; omega)
  clear hb hc hm0 hm1 hm2 hM H8 hn h1
  have h2' : 8 ≤ nU xs := by omega
  clear h2 h3 hNB
  generalize cutL xs 8 (nU xs) = ys at *
  generalize nU xs = N at *
  generalize getV (cutL xs 0 2) true = y0 at *
  generalize getV (cutL xs 2 4) true = y1 at *
  generalize getV (cutL xs 6 8) true = y3 at *
  go_enter Tryd.func22, Tryd.ntmps22
  go_upto_region 1 with fail
  have hR : Blk (w.alloc (.cells #[.int .i64 0, .int .i64 0, .slice none 0 0] 24)) w.heap.size #[.int .i64 0, .int .i64 0, .slice none 0 0] 24 := Blk.new _ _ _ _ rfl
  have g0 : Grew w (w.alloc (.cells #[.int .i64 0, .int .i64 0, .slice none 0 0] 24)) := (Grew.refl _).alloc _
  generalize (w.alloc (.cells #[.int .i64 0, .int .i64 0, .slice none 0 0] 24)) = w0 at *
  generalize hlR : w.heap.size = R at *
  go_wp2_with fail
  refine (HC.out _ g0).mono ?_
  rintro e w1 ⟨rfl, g1⟩
  have G1 := g0.trans g1
  have hR1 := hR.grew g1
  go_wp2_with fail
  refine (HH.out _ G1).mono ?_
  rintro e w2 ⟨rfl, g2⟩
  have G2 := G1.trans g2
  have hR2 := hR1.grew g2
  clear g0 g1 g2 G1 hR hR1 HC HH
  go_upto_region 5 with fail
  have hH : Blk (w2.alloc (.cells #[.int .i64 y0, .int .i64 y1, .int .i64 (N : Nat), .int .i64 y3] 43)) w2.heap.size #[.int .i64 y0, .int .i64 y1, .int .i64 (N : Nat), .int .i64 y3] 43 := Blk.new _ _ _ _ rfl
  have gh : Grew w2 (w2.alloc (.cells #[.int .i64 y0, .int .i64 y1, .int .i64 (N : Nat), .int .i64 y3] 43)) := (Grew.refl _).alloc _
  generalize (w2.alloc (.cells #[.int .i64 y0, .int .i64 y1, .int .i64 (N : Nat), .int .i64 y3] 43)) = w3 at *
  generalize hlH : w2.heap.size = H at *
  have hRH : H ≠ R := by have := hR2.lt; omega
  have G3 := G2.trans gh
  have HR0 := Lib.hid ((hR2.grew gh).drew)
  clear hR2 G2 gh
  refine wp_region_held_drew (S := fun w' => Grew w w' ∧ Blk w' H #[.int .i64 y0, .int .i64 y1, .int .i64 (N : Nat), .int .i64 y3] 43) (by kernel_rfl) (by exact ⟨G3.drew1, hH.drew⟩) (fun hHeld => ?_)
  replace hHeld : Grew w w3.drew ∧ Blk w3.drew H #[.int .i64 y0, .int .i64 y1, .int .i64 (N : Nat), .int .i64 y3] 43 := hHeld
  generalize w3.drew = wd3 at *
  refine wpAnyH_take (i := 0) (v := ?_) rfl (by kernel_rfl) (by kernel_rfl) (by kernel_rfl) (fun _ _ _ h => h) (Or.inl ⟨by rfl, ?_⟩) hHeld ?_
  rotate_left
  · intro wq hSw
    replace hSw : Grew w wq ∧ Blk wq H #[.int .i64 y0, .int .i64 y1, .int .i64 (N : Nat), .int .i64 y3] 43 := hSw
    go_simp
    try with_reducible rfl
  try simp only [List.getElem_toArray, List.getElem_cons_succ, List.getElem_cons_zero, Act.put, List.setIfInBounds_toArray, List.set_cons_zero, List.set_cons_succ]
  refine wpAnyH_take (i := 1) (v := ?_) rfl (by kernel_rfl) (by kernel_rfl) (by kernel_rfl) (fun _ _ _ h => h) (Or.inl ⟨by rfl, ?_⟩) hHeld ?_
  rotate_left
  · intro wq hSw
    replace hSw : Grew w wq ∧ Blk wq H #[.int .i64 y0, .int .i64 y1, .int .i64 (N : Nat), .int .i64 y3] 43 := hSw
    have x0 := hSw.2.cell 0
    go_simp
    try with_reducible rfl
  try simp only [List.getElem_toArray, List.getElem_cons_succ, List.getElem_cons_zero, Act.put, List.setIfInBounds_toArray, List.set_cons_zero, List.set_cons_succ]
  refine wpAnyH_take (i := 2) (v := ?_) rfl (by kernel_rfl) (by kernel_rfl) (by kernel_rfl) (fun _ _ _ h => h) (Or.inl ⟨by rfl, ?_⟩) hHeld ?_
  rotate_left
  · intro wq hSw
    replace hSw : Grew w wq ∧ Blk wq H #[.int .i64 y0, .int .i64 y1, .int .i64 (N : Nat), .int .i64 y3] 43 := hSw
    go_simp
    try with_reducible rfl
  try simp only [List.getElem_toArray, List.getElem_cons_succ, List.getElem_cons_zero, Act.put, List.setIfInBounds_toArray, List.set_cons_zero, List.set_cons_succ]
  refine wpAnyH_take (i := 3) (v := ?_) rfl (by kernel_rfl) (by kernel_rfl) (by kernel_rfl) (fun _ _ _ h => h) (Or.inl ⟨by rfl, ?_⟩) hHeld ?_
  rotate_left
  · intro wq hSw
    replace hSw : Grew w wq ∧ Blk wq H #[.int .i64 y0, .int .i64 y1, .int .i64 (N : Nat), .int .i64 y3] 43 := hSw
    have x1 := hSw.2.cell 1
    go_simp
    try with_reducible rfl
  try simp only [List.getElem_toArray, List.getElem_cons_succ, List.getElem_cons_zero, Act.put, List.setIfInBounds_toArray, List.set_cons_zero, List.set_cons_succ]
  refine wpAnyH_take (i := 4) (v := ?_) rfl (by kernel_rfl) (by kernel_rfl) (by kernel_rfl) (fun _ _ _ h => h) (Or.inl ⟨by rfl, ?_⟩) hHeld ?_
  rotate_left
  · intro wq hSw
    replace hSw : Grew w wq ∧ Blk wq H #[.int .i64 y0, .int .i64 y1, .int .i64 (N : Nat), .int .i64 y3] 43 := hSw
    go_simp
    try with_reducible rfl
  try simp only [List.getElem_toArray, List.getElem_cons_succ, List.getElem_cons_zero, Act.put, List.setIfInBounds_toArray, List.set_cons_zero, List.set_cons_succ]
  refine wpAnyH_take (i := 5) (v := ?_) rfl (by kernel_rfl) (by kernel_rfl) (by kernel_rfl) (fun _ _ _ h => h) (Or.inl ⟨by rfl, ?_⟩) hHeld ?_
  rotate_left
  · intro wq hSw
    replace hSw : Grew w wq ∧ Blk wq H #[.int .i64 y0, .int .i64 y1, .int .i64 (N : Nat), .int .i64 y3] 43 := hSw
    go_simp
    try with_reducible rfl
  try simp only [List.getElem_toArray, List.getElem_cons_succ, List.getElem_cons_zero, Act.put, List.setIfInBounds_toArray, List.set_cons_zero, List.set_cons_succ]
  refine wpAnyH_take (i := 6) (v := ?_) rfl (by kernel_rfl) (by kernel_rfl) (by kernel_rfl) (fun _ _ _ h => h) (Or.inl ⟨by rfl, ?_⟩) hHeld ?_
  rotate_left
  · intro wq hSw
    replace hSw : Grew w wq ∧ Blk wq H #[.int .i64 y0, .int .i64 y1, .int .i64 (N : Nat), .int .i64 y3] 43 := hSw
    have x2 := hSw.2.cell 2
    go_simp
    try with_reducible rfl
  try simp only [List.getElem_toArray, List.getElem_cons_succ, List.getElem_cons_zero, Act.put, List.setIfInBounds_toArray, List.set_cons_zero, List.set_cons_succ]
  refine wpAnyH_take (i := 7) (v := ?_) rfl (by kernel_rfl) (by kernel_rfl) (by kernel_rfl) (fun _ _ _ h => h) (Or.inl ⟨by rfl, ?_⟩) hHeld ?_
  rotate_left
  · intro wq hSw
    replace hSw : Grew w wq ∧ Blk wq H #[.int .i64 y0, .int .i64 y1, .int .i64 (N : Nat), .int .i64 y3] 43 := hSw
    have r := r8
    go_simp
    try with_reducible rfl
  try simp only [List.getElem_toArray, List.getElem_cons_succ, List.getElem_cons_zero, Act.put, List.setIfInBounds_toArray, List.set_cons_zero, List.set_cons_succ]
  refine wpAnyH_ready (rs := [8]) (by kernel_rfl) (by simp) ?_
  refine AllReadyH.cons rfl (fun K hK => ?_) AllReadyH.nil
  go_simp
  refine (cloneB_c HL8.out (HB8.out.grew hHeld.1)).mono ?_
  rintro e wk1 ⟨pa, ca, rfl, hrow, HA, gk1⟩
  clear hrow
  rw [hl8] at HA ⊢
  replace HA := Lib.hid HA
  replace HR0 := Lib.hid (HR0.out.grew gk1)
  refine hK.out _ _ (⟨hHeld.1.trans gk1, hHeld.2.grew gk1⟩) (fun hHeld => ?_)
  clear hK K
  try simp only [List.getElem_toArray, List.getElem_cons_succ, List.getElem_cons_zero, Act.put, List.setIfInBounds_toArray, List.set_cons_zero, List.set_cons_succ]
  refine wpAnyH_take (i := 9) (v := ?_) rfl (by kernel_rfl) (by kernel_rfl) (by kernel_rfl) (fun _ _ _ h => h) (Or.inl ⟨by rfl, ?_⟩) hHeld ?_
  rotate_left
  · intro wq hSw
    replace hSw : Grew w wq ∧ Blk wq H #[.int .i64 y0, .int .i64 y1, .int .i64 (N : Nat), .int .i64 y3] 43 := hSw
    go_simp
    try with_reducible rfl
  try simp only [List.getElem_toArray, List.getElem_cons_succ, List.getElem_cons_zero, Act.put, List.setIfInBounds_toArray, List.set_cons_zero, List.set_cons_succ]
  refine wpAnyH_ready (rs := [10]) (by kernel_rfl) (by simp) ?_
  refine AllReadyH.cons rfl (fun K hK => ?_) AllReadyH.nil
  have hRk := HR0.out
  have x0 := hRk.cell 0
  have x1 := hRk.cell 1
  have x2 := hRk.cell 2
  have q0 := hRk.free 0
  have q1 := hRk.free 1
  have q2 := hRk.free 2
  go_simp
  have E := Lib.hid (((hRk.set (o := 0) (.int .i64 y0)).set (o := 1) (.int .i64 y1)).set (o := 2) (.slice pa (N - 8) ca))
  have KK := (((BufsKept.box (o := 0) hRk (by simp [noU8]) (.int .i64 y0)).trans (BufsKept.box (o := 1) (hRk.set (o := 0) (.int .i64 y0)) (by simp [noU8]) (.int .i64 y1))).trans (BufsKept.box (o := 2) ((hRk.set (o := 0) (.int .i64 y0)).set (o := 1) (.int .i64 y1)) (by simp [noU8]) (.slice pa (N - 8) ca)))
  have GE := (((hHeld.1.setCell (b := R) (o := 0) (by omega) (.int .i64 y0)).setCell (b := R) (o := 1) (by omega) (.int .i64 y1)).setCell (b := R) (o := 2) (by omega) (.slice pa (N - 8) ca))
  replace HA := Lib.hid (KK _ _ HA.out)
  refine hK.out _ _ (⟨GE, (((hHeld.2.other (c := R) (o := 0) hRH (.int .i64 y0)).other (c := R) (o := 1) hRH (.int .i64 y1)).other (c := R) (o := 2) hRH (.slice pa (N - 8) ca))⟩) (fun hHeld => ?_)
  clear hK K
  try simp only [List.getElem_toArray, List.getElem_cons_succ, List.getElem_cons_zero, Act.put, List.setIfInBounds_toArray, List.set_cons_zero, List.set_cons_succ]
  refine wpAnyH_take (i := 11) (v := ?_) rfl (by kernel_rfl) (by kernel_rfl) (by kernel_rfl) (fun _ _ _ h => h) (Or.inl ⟨by rfl, ?_⟩) hHeld ?_
  rotate_left
  · intro wq hSw
    replace hSw : Grew w wq ∧ Blk wq H #[.int .i64 y0, .int .i64 y1, .int .i64 (N : Nat), .int .i64 y3] 43 := hSw
    go_simp
    try with_reducible rfl
  try simp only [List.getElem_toArray, List.getElem_cons_succ, List.getElem_cons_zero, Act.put, List.setIfInBounds_toArray, List.set_cons_zero, List.set_cons_succ]
  refine wpAnyH_done (by kernel_rfl) ?_ _
  try simp only [List.getElem_toArray, List.getElem_cons_succ, List.getElem_cons_zero, Act.put, List.setIfInBounds_toArray, List.set_cons_zero, List.set_cons_succ]
  have EB := E.out
  have z0 := EB.cell 0
  have z1 := EB.cell 1
  have z2 := EB.cell 2
  go_wp2_with fail
  have hfr := Ud.of HA.out hi0.out.1 hi0.out.2
  rw [HF.out]
  exact bodyPost_ret (v := .tuple #[.agg #[.int .i64 y0, .int .i64 y1, .slice pa (N - 8) ca], .nilIface]) (by simp [results, Tryd.results22, go_sem, z0, z1, z2]) rfl ⟨_, rfl, hfr, hHeld.1⟩
set_option maxHeartbeats 2000000 in
theorem get_with {v : Value} {P : Value → Prop} {f : UD} (src dst q : Int) {w : World}
    (HF : ∀ w', Grew w w' → Calls Tryd.prog 22 #[v, .int .u32 src, .int .u32 dst] w' fun e w'' => ∃ u E, e = .returned (.tuple #[u, E]) ∧ P E ∧ Ud w'' u f ∧ Grew w' w'')
    (HNb : ∀ w' E, P E → Grew w w' → Calls Tryd.prog 23 #[E] w' fun e w'' => e = .returned (.int .i64 q) ∧ Grew w' w'') :
    Calls Tryd.prog 9 #[v, .int .u32 src, .int .u32 dst] w fun e w' => ∃ u, e = .returned (.tuple #[u, .int .i64 q]) ∧ Ud w' u f ∧ Grew w w' := by
  replace HF := Lib.hid HF
  have HNB := Lib.hid HNb
  clear HNb
  go_enter Tryd.func9, Tryd.ntmps9
  go_upto_region 1 with fail
  have hR : Blk (w.alloc (.cells #[.int .i64 0, .int .i64 0, .slice none 0 0] 24)) w.heap.size #[.int .i64 0, .int .i64 0, .slice none 0 0] 24 := Blk.new _ _ _ _ rfl
  have g0 : Grew w (w.alloc (.cells #[.int .i64 0, .int .i64 0, .slice none 0 0] 24)) := (Grew.refl _).alloc _
  generalize (w.alloc (.cells #[.int .i64 0, .int .i64 0, .slice none 0 0] 24)) = w0 at *
  generalize hlR : w.heap.size = R at *
  go_wp2_with fail
  refine (HF.out _ g0).mono ?_
  rintro e w1 ⟨u, E, rfl, hP, hu, g1⟩
  replace HNB := Lib.hid (fun w' g => HNB.out w' E hP g)
  clear hP
  have HU := Lib.hid hu
  have hu' := hu
  obtain ⟨p1, k1, rfl, b1⟩ := hu'.shape
  have hR1 := hR.grew g1
  have G1 := g0.trans g1
  have hRl := hR1.lt
  clear hu b1
  go_upto_region 2 with fail
  have hR2 := hR1.alloc (.cells #[.int .i64 f.s, .int .i64 f.d, .slice p1 f.x.length k1] 24)
  have hDR : w1.heap.size ≠ R := Nat.ne_of_gt hRl
  have hU2 := HU.out.grew ((Grew.refl w1).alloc (.cells #[.int .i64 f.s, .int .i64 f.d, .slice p1 f.x.length k1] 24))
  have hD2 : Blk (w1.alloc (.cells #[.int .i64 f.s, .int .i64 f.d, .slice p1 f.x.length k1] 24)) w1.heap.size #[.int .i64 f.s, .int .i64 f.d, .slice p1 f.x.length k1] 24 := Blk.new _ _ _ _ rfl
  have g2 : Grew w1 (w1.alloc (.cells #[.int .i64 f.s, .int .i64 f.d, .slice p1 f.x.length k1] 24)) := (Grew.refl _).alloc _
  generalize (w1.alloc (.cells #[.int .i64 f.s, .int .i64 f.d, .slice p1 f.x.length k1] 24)) = w2 at *
  generalize hlD : w1.heap.size = D at *
  have G2 := G1.trans g2
  have HU2 := Lib.hid (hU2.grew ((Grew.refl w2).drew1))
  have G2q := G2.drew1
  have hR2q := hR2.drew
  have hD2q := hD2.drew
  clear hU2 G2 hR2 hD2 g2
  refine wp_region_held_drew (S := fun w' => Blk w' D #[.int .i64 f.s, .int .i64 f.d, .slice p1 f.x.length k1] 24) (by kernel_rfl) (by exact hD2q) (fun hHeld => ?_)
  replace hHeld : Blk w2.drew D #[.int .i64 f.s, .int .i64 f.d, .slice p1 f.x.length k1] 24 := hHeld
  generalize w2.drew = wq0 at *
  refine wpAnyH_take (i := 0) (v := ?_) rfl (by kernel_rfl) (by kernel_rfl) (by kernel_rfl) (fun _ _ _ h => h) (Or.inl ⟨by rfl, ?_⟩) hHeld ?_
  rotate_left
  · intro wq hSw
    replace hSw : Blk wq D #[.int .i64 f.s, .int .i64 f.d, .slice p1 f.x.length k1] 24 := hSw
    have y0 := hSw.cell 0
    have y1 := hSw.cell 1
    have y2 := hSw.cell 2
    go_simp
    try with_reducible rfl
  try simp only [List.getElem_toArray, List.getElem_cons_succ, List.getElem_cons_zero, Act.put, List.setIfInBounds_toArray, List.set_cons_zero, List.set_cons_succ]
  refine wpAnyH_take (i := 1) (v := ?_) rfl (by kernel_rfl) (by kernel_rfl) (by kernel_rfl) (fun _ _ _ h => h) (Or.inl ⟨by rfl, ?_⟩) hHeld ?_
  rotate_left
  · intro wq hSw
    replace hSw : Blk wq D #[.int .i64 f.s, .int .i64 f.d, .slice p1 f.x.length k1] 24 := hSw
    go_simp
    try with_reducible rfl
  try simp only [List.getElem_toArray, List.getElem_cons_succ, List.getElem_cons_zero, Act.put, List.setIfInBounds_toArray, List.set_cons_zero, List.set_cons_succ]
  refine wpAnyH_ready (rs := [2]) (by kernel_rfl) (by simp) ?_
  refine AllReadyH.cons rfl (fun K hK => ?_) AllReadyH.nil
  go_simp
  refine (HNB.out _ G2q).mono ?_
  rintro e w3 ⟨rfl, g3⟩
  have G3 := G2q.trans g3
  have hR3 := hR2q.grew g3
  have hD3 := hD2q.grew g3
  have b3 := g3
  have f0 := hR3.free 0
  have f1 := hR3.free 1
  have f2 := hR3.free 2
  have x0 := hR3.cell 0
  have x1 := hR3.cell 1
  have x2 := hR3.cell 2
  refine hK.out _ _ (hD3) (fun hHeld => ?_)
  clear hK K
  try simp only [List.getElem_toArray, List.getElem_cons_succ, List.getElem_cons_zero, Act.put, List.setIfInBounds_toArray, List.set_cons_zero, List.set_cons_succ]
  refine wpAnyH_ready (rs := [3]) (by kernel_rfl) (by simp) ?_
  refine AllReadyH.cons rfl (fun K hK => ?_) AllReadyH.nil
  go_simp
  refine hK.out _ _ ((((hD3.other (c := R) (o := 0) hDR (.int .i64 f.s)).other (c := R) (o := 1) hDR (.int .i64 f.d)).other (c := R) (o := 2) hDR (.slice p1 f.x.length k1))) (fun hHeld => ?_)
  clear hK K
  try simp only [List.getElem_toArray, List.getElem_cons_succ, List.getElem_cons_zero, Act.put, List.setIfInBounds_toArray, List.set_cons_zero, List.set_cons_succ]
  refine wpAnyH_ready (rs := [4]) (by kernel_rfl) (by simp) ?_
  refine AllReadyH.cons rfl (fun K hK => ?_) AllReadyH.nil
  go_simp
  refine hK.out _ _ hHeld (fun hHeld => ?_)
  clear hK K
  try simp only [List.getElem_toArray, List.getElem_cons_succ, List.getElem_cons_zero, Act.put, List.setIfInBounds_toArray, List.set_cons_zero, List.set_cons_succ]
  refine wpAnyH_done (by kernel_rfl) ?_ _
  try simp only [List.getElem_toArray, List.getElem_cons_succ, List.getElem_cons_zero, Act.put, List.setIfInBounds_toArray, List.set_cons_zero, List.set_cons_succ]
  go_wp2_with fail
  have EB := (((hR3.set (o := 0) (.int .i64 f.s)).set (o := 1) (.int .i64 f.d)).set (o := 2) (.slice p1 f.x.length k1))
  have KK := (((BufsKept.box (o := 0) hR3 (by simp [noU8]) (.int .i64 f.s)).trans (BufsKept.box (o := 1) (hR3.set (o := 0) (.int .i64 f.s)) (by simp [noU8]) (.int .i64 f.d))).trans (BufsKept.box (o := 2) ((hR3.set (o := 0) (.int .i64 f.s)).set (o := 1) (.int .i64 f.d)) (by simp [noU8]) (.slice p1 f.x.length k1)))
  have GE := (((G3.setCell (b := R) (o := 0) (by have := g0.size; omega) (.int .i64 f.s)).setCell (b := R) (o := 1) (by have := g0.size; omega) (.int .i64 f.d)).setCell (b := R) (o := 2) (by have := g0.size; omega) (.slice p1 f.x.length k1))
  have z0 := EB.cell 0
  have z1 := EB.cell 1
  have z2 := EB.cell 2
  exact bodyPost_ret (v := .tuple #[.agg #[.int .i64 f.s, .int .i64 f.d, .slice p1 f.x.length k1], .int .i64 q]) (by simp [results, Tryd.results9, go_sem, z0, z1, z2]) rfl ⟨_, rfl, ((HU2.out.grew b3).kept KK), GE⟩
theorem Get18_c {v : Value} {xs : List Int} (src dst : Int) (hsr : 0 ≤ src ∧ src < 4294967296) (hdr : 0 ≤ dst ∧ dst < 4294967296) {w : World} (sn : SenW w) (_hx : xs.length ≤ 140737488355328) (hb : Buf w v xs) :
    Calls Tryd.prog 9 #[v, .int .u32 src, .int .u32 dst] w fun e w' => ∃ u, e = .returned (.tuple #[u, .int .i64 (getUE xs src dst)]) ∧ Ud w' u (getU xs src dst) ∧ Grew w w' := by
  have hc := fun w' (g : Grew w w') => check_c src dst hsr hdr (hb.grew g)
  by_cases h : getUE xs src dst = 0
  · have hp : getU xs src dst = udOf xs := by unfold getU; rw [if_pos h]
    rw [hp, h]
    obtain ⟨a, c, rfl, _, _⟩ := hb.shape
    have hq : ¬ xs.length < 8 ∧ ¬ nU xs < 8 ∧ ¬ xs.length < nU xs := by
      unfold getUE at h
      repeat' split at h
      all_goals omega
    refine get_with (f := udOf xs) (P := fun E => E = .nilIface) src dst 0 (fun w' g => (datagram_yes a _ c xs src dst hsr hdr (hb.grew g) (fun w'' g2 => (hc w'' (g.trans g2)).mono ?_) hq.1 hq.2.1 hq.2.2).mono ?_) (fun w' E hE g => by subst hE; exact number_nil w')
    · rintro e w3 ⟨u, he, ⟨_, rfl⟩ | ⟨h0, _⟩, g3⟩
      · exact ⟨he, g3⟩
      · exact absurd h h0
    · rintro e w3 ⟨u, he, h1, h2⟩
      exact ⟨u, _, he, rfl, h1, h2⟩
  · have hp : getU xs src dst = zU := by unfold getU; rw [if_neg h]
    rw [hp]
    refine get_with (f := zU) (P := fun E => ∃ n' s, E = .iface 68 (.agg #[.int .i64 (getUE xs src dst), .int .i64 n', .string s])) src dst (getUE xs src dst) (fun w' g => datagram_no src dst (getUE xs src dst) (fun w'' g2 => (hc w'' (g.trans g2)).mono ?_)) (fun w' E hE g => by obtain ⟨n', s, rfl⟩ := hE; exact number_hit _ _ _ (sn.grew g))
    rintro e w3 ⟨u, he, ⟨h0, _⟩ | ⟨_, n', s, rfl⟩, g3⟩
    · exact absurd h0 h
    · exact ⟨n', s, he, g3⟩
end Go.Proofs.YtcaafinjphionaaDoor
