/-
  The statement IpTells: which bytes packets are, and which packets bytes, as the document's own answer says. For every packet, right or not, and bytes. Conditions: none but those of the statement's row (the package variables as the text lays them).
-/
import Derived.Test.YtalbdeifkbfnbaaDoorIpH
import Derived.Test.YtalbdeifkbfnbaaDoorIpG2
import Derived.Test.YtalbdeifkbfnbaaDoorIpQ
import Derived.Test.YtalbdeifkbfnbaaDoorIpO
import Derived.Test.YtalbdeifkbfnbaaDoorIpL
import Derived.Test.YtalbdeifkbfnbaaDoorCards
import Derived.Test.YtalbdeifkbfnbaaDoorTie
import Derived.SevenTiedAt
set_option maxRecDepth 4000
set_option linter.unusedVariables false
set_option linter.unusedSimpArgs false
namespace Go.Proofs.YtalbdeifkbfnbaaDoor.ipTells
open Go.ChangeShapes Go.WideShapes Go.ChangeAt Go.RowKit

theorem walk_far {f : PK} {p1 : Option Addr} {k1 : Nat} {p2 : Option Addr} {k2 : Nat} (a : Option Addr) (n c : Nat) {W : World} (sn : SenW W) (h : ((70000 : Int) < (n : Nat)) ∨ (¬ ((70000 : Int) < (n : Nat)) ∧ (70000 : Int) < (f.x.length : Nat))) :
    Calls Tryd.prog 3 #[.agg #[.int .i64 f.tos, .int .i64 f.id, .int .i64 f.fl, .int .i64 f.off, .int .i64 f.ttl, .int .i64 f.pr, .int .u32 f.si, .int .u32 f.di, .slice p1 f.o.length k1, .slice p2 f.x.length k2], .slice a n c] W fun e w' => e = .returned (.bool true) ∧ Below W.heap.size W w' := by
  rcases h with h1 | ⟨h1, h2⟩
  all_goals
    go_enter Tryd.func3, Tryd.ntmps3
    go_upto_region 1 with fail
    have hB : Blk (W.alloc (.cells #[.int .i64 f.tos, .int .i64 f.id, .int .i64 f.fl, .int .i64 f.off, .int .i64 f.ttl, .int .i64 f.pr, .int .u32 f.si, .int .u32 f.di, .slice p1 f.o.length k1, .slice p2 f.x.length k2] 25)) W.heap.size #[.int .i64 f.tos, .int .i64 f.id, .int .i64 f.fl, .int .i64 f.off, .int .i64 f.ttl, .int .i64 f.pr, .int .u32 f.si, .int .u32 f.di, .slice p1 f.o.length k1, .slice p2 f.x.length k2] 25 := Blk.new _ _ _ _ rfl
    have g0 : Grew W (W.alloc (.cells #[.int .i64 f.tos, .int .i64 f.id, .int .i64 f.fl, .int .i64 f.off, .int .i64 f.ttl, .int .i64 f.pr, .int .u32 f.si, .int .u32 f.di, .slice p1 f.o.length k1, .slice p2 f.x.length k2] 25)) := (Grew.refl _).alloc _
    generalize (W.alloc (.cells #[.int .i64 f.tos, .int .i64 f.id, .int .i64 f.fl, .int .i64 f.off, .int .i64 f.ttl, .int .i64 f.pr, .int .u32 f.si, .int .u32 f.di, .slice p1 f.o.length k1, .slice p2 f.x.length k2] 25)) = w0 at *
    generalize hlB : W.heap.size = B at *
    have y0 := hB.cell 0
    have y1 := hB.cell 1
    have y2 := hB.cell 2
    have y3 := hB.cell 3
    have y4 := hB.cell 4
    have y5 := hB.cell 5
    have y6 := hB.cell 6
    have y7 := hB.cell 7
    have y8 := hB.cell 8
    have y9 := hB.cell 9
    go_wp2_with fail
    refine (heads_c (g0) (sn.grew (g0))).mono ?_
    rintro e wh ⟨rfl, gh⟩
    go_wp2_with fail
    go_ret
    exact ⟨rfl, gh⟩
set_option maxHeartbeats 4000000 in
theorem walk_near {f : PK} {p1 : Option Addr} {k1 : Nat} {p2 : Option Addr} {k2 : Nat} (a : Option Addr) (n c : Nat) (xs : List Int) {W : World} (sn : SenW W) (h1 : ¬ ((70000 : Int) < (n : Nat))) (h2 : ¬ ((70000 : Int) < (f.x.length : Nat))) (hF : Pk W (.agg #[.int .i64 f.tos, .int .i64 f.id, .int .i64 f.fl, .int .i64 f.off, .int .i64 f.ttl, .int .i64 f.pr, .int .u32 f.si, .int .u32 f.di, .slice p1 f.o.length k1, .slice p2 f.x.length k2]) f) (hb : Buf W (.slice a n c) xs) :
    Calls Tryd.prog 3 #[.agg #[.int .i64 f.tos, .int .i64 f.id, .int .i64 f.fl, .int .i64 f.off, .int .i64 f.ttl, .int .i64 f.pr, .int .u32 f.si, .int .u32 f.di, .slice p1 f.o.length k1, .slice p2 f.x.length k2], .slice a n c] W fun e w' => e = .returned (.bool true) ∧ Below W.heap.size W w' := by
  have h3 : ¬ ((70000 : Int) < (f.x.length : Nat)) := h2
  have HFX := Lib.hid (show f.x.length ≤ 140737488355328 by omega)
  have HF0 := Lib.hid hF
  have HX0 := Lib.hid hb
  clear hF hb
  go_enter Tryd.func3, Tryd.ntmps3
  go_upto_region 1 with fail
  have hB : Blk (W.alloc (.cells #[.int .i64 f.tos, .int .i64 f.id, .int .i64 f.fl, .int .i64 f.off, .int .i64 f.ttl, .int .i64 f.pr, .int .u32 f.si, .int .u32 f.di, .slice p1 f.o.length k1, .slice p2 f.x.length k2] 25)) W.heap.size #[.int .i64 f.tos, .int .i64 f.id, .int .i64 f.fl, .int .i64 f.off, .int .i64 f.ttl, .int .i64 f.pr, .int .u32 f.si, .int .u32 f.di, .slice p1 f.o.length k1, .slice p2 f.x.length k2] 25 := Blk.new _ _ _ _ rfl
  have g0 : Grew W (W.alloc (.cells #[.int .i64 f.tos, .int .i64 f.id, .int .i64 f.fl, .int .i64 f.off, .int .i64 f.ttl, .int .i64 f.pr, .int .u32 f.si, .int .u32 f.di, .slice p1 f.o.length k1, .slice p2 f.x.length k2] 25)) := (Grew.refl _).alloc _
  generalize (W.alloc (.cells #[.int .i64 f.tos, .int .i64 f.id, .int .i64 f.fl, .int .i64 f.off, .int .i64 f.ttl, .int .i64 f.pr, .int .u32 f.si, .int .u32 f.di, .slice p1 f.o.length k1, .slice p2 f.x.length k2] 25)) = w0 at *
  generalize hlB : W.heap.size = B at *
  have HF := Lib.hid (HF0.out.grew g0)
  have HX := Lib.hid (HX0.out.grew g0)
  have y0 := hB.cell 0
  have y1 := hB.cell 1
  have y2 := hB.cell 2
  have y3 := hB.cell 3
  have y4 := hB.cell 4
  have y5 := hB.cell 5
  have y6 := hB.cell 6
  have y7 := hB.cell 7
  have y8 := hB.cell 8
  have y9 := hB.cell 9
  go_wp2_with fail
  refine (Put17_c HFX.out HF.out).mono ?_
  rintro e w1 ⟨ua, rfl, Ha, g1⟩
  obtain ⟨pa, ka, rfl, _, _⟩ := Ha.shape
  replace HF := Lib.hid (HF.out.grew g1)
  replace HX := Lib.hid (HX.out.grew g1)
  replace hB := hB.grew g1
  replace Ha := Lib.hid Ha
  have G1 := g0.trans g1
  clear g1
  clear y0 y1 y2 y3 y4 y5 y6 y7 y8 y9
  have y0 := hB.cell 0
  have y1 := hB.cell 1
  have y2 := hB.cell 2
  have y3 := hB.cell 3
  have y4 := hB.cell 4
  have y5 := hB.cell 5
  have y6 := hB.cell 6
  have y7 := hB.cell 7
  have y8 := hB.cell 8
  have y9 := hB.cell 9
  go_wp2_with fail
  refine (refPut17_c HF.out).mono ?_
  rintro e w2 ⟨ub, rfl, Hb, g2⟩
  obtain ⟨pb, kb, rfl, _, _⟩ := Hb.shape
  replace HF := Lib.hid (HF.out.grew g2)
  replace HX := Lib.hid (HX.out.grew g2)
  replace Ha := Lib.hid (Ha.out.grew g2)
  replace hB := hB.grew g2
  replace Hb := Lib.hid Hb
  have G2 := G1.trans g2
  clear g2
  clear y0 y1 y2 y3 y4 y5 y6 y7 y8 y9
  go_wp2_with fail
  refine (Get17_c (sn.grew G2) HX.out).mono ?_
  rintro e w3 ⟨uv, rfl, Hv, g3⟩
  have Ev := Hv.shape
  obtain ⟨vp1, vk1, vp2, vk2, rfl, _, _⟩ := Ev
  replace HF := Lib.hid (HF.out.grew g3)
  replace HX := Lib.hid (HX.out.grew g3)
  replace Ha := Lib.hid (Ha.out.grew g3)
  replace Hb := Lib.hid (Hb.out.grew g3)
  replace hB := hB.grew g3
  replace Hv := Lib.hid Hv
  have G3 := G2.trans g3
  clear g3
  go_upto_region 6 with fail
  have g4 : Grew w3 (w3.alloc (.cells #[.int .i64 (getP xs).tos, .int .i64 (getP xs).id, .int .i64 (getP xs).fl, .int .i64 (getP xs).off, .int .i64 (getP xs).ttl, .int .i64 (getP xs).pr, .int .u32 (getP xs).si, .int .u32 (getP xs).di, .slice vp1 (getP xs).o.length vk1, .slice vp2 (getP xs).x.length vk2] 25)) := (Grew.refl _).alloc _
  have hX9 : Blk (w3.alloc (.cells #[.int .i64 (getP xs).tos, .int .i64 (getP xs).id, .int .i64 (getP xs).fl, .int .i64 (getP xs).off, .int .i64 (getP xs).ttl, .int .i64 (getP xs).pr, .int .u32 (getP xs).si, .int .u32 (getP xs).di, .slice vp1 (getP xs).o.length vk1, .slice vp2 (getP xs).x.length vk2] 25)) w3.heap.size #[.int .i64 (getP xs).tos, .int .i64 (getP xs).id, .int .i64 (getP xs).fl, .int .i64 (getP xs).off, .int .i64 (getP xs).ttl, .int .i64 (getP xs).pr, .int .u32 (getP xs).si, .int .u32 (getP xs).di, .slice vp1 (getP xs).o.length vk1, .slice vp2 (getP xs).x.length vk2] 25 := Blk.new _ _ _ _ rfl
  replace HF := Lib.hid (HF.out.grew g4)
  replace HX := Lib.hid (HX.out.grew g4)
  replace Ha := Lib.hid (Ha.out.grew g4)
  replace Hb := Lib.hid (Hb.out.grew g4)
  replace Hv := Lib.hid (Hv.out.grew g4)
  replace hB := hB.grew g4
  have G4 := G3.trans g4
  clear g4
  generalize (w3.alloc (.cells #[.int .i64 (getP xs).tos, .int .i64 (getP xs).id, .int .i64 (getP xs).fl, .int .i64 (getP xs).off, .int .i64 (getP xs).ttl, .int .i64 (getP xs).pr, .int .u32 (getP xs).si, .int .u32 (getP xs).di, .slice vp1 (getP xs).o.length vk1, .slice vp2 (getP xs).x.length vk2] 25)) = w4 at *
  generalize w3.heap.size = X9 at *
  go_wp2_with fail
  refine (refGet17_c HX.out).mono ?_
  rintro e w5 ⟨ut, rfl, Ht, g5⟩
  have Et := Ht.shape
  obtain ⟨tp1, tk1, tp2, tk2, rfl, _, _⟩ := Et
  replace HF := Lib.hid (HF.out.grew g5)
  replace HX := Lib.hid (HX.out.grew g5)
  replace Ha := Lib.hid (Ha.out.grew g5)
  replace Hb := Lib.hid (Hb.out.grew g5)
  replace Hv := Lib.hid (Hv.out.grew g5)
  replace hB := hB.grew g5
  replace hX9 := hX9.grew g5
  replace Ht := Lib.hid Ht
  have G5 := G4.trans g5
  clear g5
  go_upto_region 7 with fail
  have g6 : Grew w5 (w5.alloc (.cells #[.int .i64 (getP xs).tos, .int .i64 (getP xs).id, .int .i64 (getP xs).fl, .int .i64 (getP xs).off, .int .i64 (getP xs).ttl, .int .i64 (getP xs).pr, .int .u32 (getP xs).si, .int .u32 (getP xs).di, .slice tp1 (getP xs).o.length tk1, .slice tp2 (getP xs).x.length tk2] 25)) := (Grew.refl _).alloc _
  have hX11 : Blk (w5.alloc (.cells #[.int .i64 (getP xs).tos, .int .i64 (getP xs).id, .int .i64 (getP xs).fl, .int .i64 (getP xs).off, .int .i64 (getP xs).ttl, .int .i64 (getP xs).pr, .int .u32 (getP xs).si, .int .u32 (getP xs).di, .slice tp1 (getP xs).o.length tk1, .slice tp2 (getP xs).x.length tk2] 25)) w5.heap.size #[.int .i64 (getP xs).tos, .int .i64 (getP xs).id, .int .i64 (getP xs).fl, .int .i64 (getP xs).off, .int .i64 (getP xs).ttl, .int .i64 (getP xs).pr, .int .u32 (getP xs).si, .int .u32 (getP xs).di, .slice tp1 (getP xs).o.length tk1, .slice tp2 (getP xs).x.length tk2] 25 := Blk.new _ _ _ _ rfl
  replace HF := Lib.hid (HF.out.grew g6)
  replace HX := Lib.hid (HX.out.grew g6)
  replace Ha := Lib.hid (Ha.out.grew g6)
  replace Hb := Lib.hid (Hb.out.grew g6)
  replace Hv := Lib.hid (Hv.out.grew g6)
  replace Ht := Lib.hid (Ht.out.grew g6)
  replace hB := hB.grew g6
  replace hX9 := hX9.grew g6
  have G6 := G5.trans g6
  clear g6
  generalize (w5.alloc (.cells #[.int .i64 (getP xs).tos, .int .i64 (getP xs).id, .int .i64 (getP xs).fl, .int .i64 (getP xs).off, .int .i64 (getP xs).ttl, .int .i64 (getP xs).pr, .int .u32 (getP xs).si, .int .u32 (getP xs).di, .slice tp1 (getP xs).o.length tk1, .slice tp2 (getP xs).x.length tk2] 25)) = w6 at *
  generalize w5.heap.size = X11 at *
  have E1 := Lib.hid (show (putPE f == putPE f) = true by simp)
  have E2 := Lib.hid (show (getPE xs == getPE xs) = true by simp)
  obtain ⟨v1, v2, v3, v4, ev, hv1, hv2⟩ := Hv.out.shape
  obtain ⟨u1, u2, u3, u4, ew, hw1, hw2⟩ := Ht.out.shape
  simp only [pkV, Value.agg.injEq, Array.mk.injEq, List.cons.injEq, Value.slice.injEq, and_true, true_and] at ev ew
  obtain ⟨⟨rfl, rfl⟩, rfl, rfl⟩ := ev
  obtain ⟨⟨rfl, rfl⟩, rfl, rfl⟩ := ew
  have HV1 := Lib.hid hv1
  have HV2 := Lib.hid hv2
  have HW1 := Lib.hid hw1
  have HW2 := Lib.hid hw2
  clear hv1 hv2 hw1 hw2 h1 h2 h3
  go_upto_region 7 with fail
  have hst := (Grew.refl w6).drew1
  refine wp_region_held_drew (S := fun w' => Grew w6 w') (by kernel_rfl) (by exact hst) (fun hHeld => ?_)
  replace hHeld : Grew w6 w6.drew := hHeld
  generalize w6.drew = wq1 at *
  refine wpAnyH_take (i := 0) (v := ?_) rfl (by kernel_rfl) (by kernel_rfl) (by kernel_rfl) (fun _ _ _ h => h) (Or.inl ⟨by rfl, ?_⟩) hHeld ?_
  rotate_left
  · intro wq hSw
    replace hSw : Grew w6 wq := hSw
    go_simp
    try with_reducible rfl
  try simp only [List.getElem_toArray, List.getElem_cons_succ, List.getElem_cons_zero, Act.put, List.setIfInBounds_toArray, List.set_cons_zero, List.set_cons_succ]
  refine wpAnyH_take (i := 1) (v := ?_) rfl (by kernel_rfl) (by kernel_rfl) (by kernel_rfl) (fun _ _ _ h => h) (Or.inl ⟨by rfl, ?_⟩) hHeld ?_
  rotate_left
  · intro wq hSw
    replace hSw : Grew w6 wq := hSw
    go_simp
    try with_reducible rfl
  try simp only [List.getElem_toArray, List.getElem_cons_succ, List.getElem_cons_zero, Act.put, List.setIfInBounds_toArray, List.set_cons_zero, List.set_cons_succ]
  refine wpAnyH_ready (rs := [2]) (by kernel_rfl) (by simp) ?_
  refine AllReadyH.cons rfl (fun K hK => ?_) AllReadyH.nil
  go_simp
  refine (same_true (Ha.out.grew hHeld) (Hb.out.grew hHeld)).mono ?_
  rintro e wk2 ⟨rfl, gk2⟩
  refine hK.out _ _ (hHeld.trans gk2) (fun hHeld => ?_)
  clear hK K
  try simp only [List.getElem_toArray, List.getElem_cons_succ, List.getElem_cons_zero, Act.put, List.setIfInBounds_toArray, List.set_cons_zero, List.set_cons_succ]
  refine wpAnyH_take (i := 3) (v := ?_) rfl (by kernel_rfl) (by kernel_rfl) (by kernel_rfl) (fun _ _ _ h => h) (Or.inl ⟨by rfl, ?_⟩) hHeld ?_
  rotate_left
  · intro wq hSw
    replace hSw : Grew w6 wq := hSw
    go_simp
    try with_reducible rfl
  try simp only [List.getElem_toArray, List.getElem_cons_succ, List.getElem_cons_zero, Act.put, List.setIfInBounds_toArray, List.set_cons_zero, List.set_cons_succ]
  refine wpAnyH_take (i := 4) (v := ?_) rfl (by kernel_rfl) (by kernel_rfl) (by kernel_rfl) (fun _ _ _ h => h) (Or.inl ⟨by rfl, ?_⟩) hHeld ?_
  rotate_left
  · intro wq hSw
    replace hSw : Grew w6 wq := hSw
    go_simp
    try with_reducible rfl
  try simp only [List.getElem_toArray, List.getElem_cons_succ, List.getElem_cons_zero, Act.put, List.setIfInBounds_toArray, List.set_cons_zero, List.set_cons_succ]
  refine wpAnyH_take (i := 5) (v := ?_) rfl (by kernel_rfl) (by kernel_rfl) (by kernel_rfl) (fun _ _ _ h => h) (Or.inl ⟨by rfl, ?_⟩) hHeld ?_
  rotate_left
  · intro wq hSw
    replace hSw : Grew w6 wq := hSw
    go_simp
    try with_reducible rfl
  try simp only [List.getElem_toArray, List.getElem_cons_succ, List.getElem_cons_zero, Act.put, List.setIfInBounds_toArray, List.set_cons_zero, List.set_cons_succ]
  refine wpAnyH_take (i := 6) (v := ?_) rfl (by kernel_rfl) (by kernel_rfl) (by kernel_rfl) (fun _ _ _ h => h) (Or.inl ⟨by rfl, ?_⟩) hHeld ?_
  rotate_left
  · intro wq hSw
    replace hSw : Grew w6 wq := hSw
    have ew := E1.out
    go_simp
    try with_reducible rfl
  try simp only [List.getElem_toArray, List.getElem_cons_succ, List.getElem_cons_zero, Act.put, List.setIfInBounds_toArray, List.set_cons_zero, List.set_cons_succ]
  refine wpAnyH_take (i := 7) (v := ?_) rfl (by kernel_rfl) (by kernel_rfl) (by kernel_rfl) (fun _ _ _ h => h) (Or.inl ⟨by rfl, ?_⟩) hHeld ?_
  rotate_left
  · intro wq hSw
    replace hSw : Grew w6 wq := hSw
    go_simp
    try with_reducible rfl
  try simp only [List.getElem_toArray, List.getElem_cons_succ, List.getElem_cons_zero, Act.put, List.setIfInBounds_toArray, List.set_cons_zero, List.set_cons_succ]
  refine wpAnyH_take (i := 8) (v := ?_) rfl (by kernel_rfl) (by kernel_rfl) (by kernel_rfl) (fun _ _ _ h => h) (Or.inl ⟨by rfl, ?_⟩) hHeld ?_
  rotate_left
  · intro wq hSw
    replace hSw : Grew w6 wq := hSw
    go_simp
    try with_reducible rfl
  try simp only [List.getElem_toArray, List.getElem_cons_succ, List.getElem_cons_zero, Act.put, List.setIfInBounds_toArray, List.set_cons_zero, List.set_cons_succ]
  refine wpAnyH_take (i := 9) (v := ?_) rfl (by kernel_rfl) (by kernel_rfl) (by kernel_rfl) (fun _ _ _ h => h) (Or.inl ⟨by rfl, ?_⟩) hHeld ?_
  rotate_left
  · intro wq hSw
    replace hSw : Grew w6 wq := hSw
    have y0 := (hX9.grew hSw).cell 0
    have y1 := (hX9.grew hSw).cell 1
    have y2 := (hX9.grew hSw).cell 2
    have y3 := (hX9.grew hSw).cell 3
    have y4 := (hX9.grew hSw).cell 4
    have y5 := (hX9.grew hSw).cell 5
    have y6 := (hX9.grew hSw).cell 6
    have y7 := (hX9.grew hSw).cell 7
    have y8 := (hX9.grew hSw).cell 8
    have y9 := (hX9.grew hSw).cell 9
    go_simp
    try with_reducible rfl
  try simp only [List.getElem_toArray, List.getElem_cons_succ, List.getElem_cons_zero, Act.put, List.setIfInBounds_toArray, List.set_cons_zero, List.set_cons_succ]
  refine wpAnyH_take (i := 11) (v := ?_) rfl (by kernel_rfl) (by kernel_rfl) (by kernel_rfl) (fun _ _ _ h => h) (Or.inl ⟨by rfl, ?_⟩) hHeld ?_
  rotate_left
  · intro wq hSw
    replace hSw : Grew w6 wq := hSw
    have y0 := (hX11.grew hSw).cell 0
    have y1 := (hX11.grew hSw).cell 1
    have y2 := (hX11.grew hSw).cell 2
    have y3 := (hX11.grew hSw).cell 3
    have y4 := (hX11.grew hSw).cell 4
    have y5 := (hX11.grew hSw).cell 5
    have y6 := (hX11.grew hSw).cell 6
    have y7 := (hX11.grew hSw).cell 7
    have y8 := (hX11.grew hSw).cell 8
    have y9 := (hX11.grew hSw).cell 9
    go_simp
    try with_reducible rfl
  try simp only [List.getElem_toArray, List.getElem_cons_succ, List.getElem_cons_zero, Act.put, List.setIfInBounds_toArray, List.set_cons_zero, List.set_cons_succ]
  refine wpAnyH_ready (rs := [10]) (by kernel_rfl) (by simp) ?_
  refine AllReadyH.cons rfl (fun K hK => ?_) AllReadyH.nil
  go_simp
  refine (one_c (f := getP xs)).mono ?_
  rintro e wk3 ⟨A1, T1, rfl, HA1, gk3⟩
  replace HA1 := Lib.hid HA1
  refine hK.out _ _ (hHeld.trans gk3) (fun hHeld => ?_)
  clear hK K
  try simp only [List.getElem_toArray, List.getElem_cons_succ, List.getElem_cons_zero, Act.put, List.setIfInBounds_toArray, List.set_cons_zero, List.set_cons_succ]
  refine wpAnyH_ready (rs := [12]) (by kernel_rfl) (by simp) ?_
  refine AllReadyH.cons rfl (fun K hK => ?_) AllReadyH.nil
  go_simp
  refine (one_c (f := getP xs)).mono ?_
  rintro e wk4 ⟨B1, T2, rfl, HB1, gk4⟩
  replace HB1 := Lib.hid HB1
  replace HA1 := Lib.hid (HA1.out.grew gk4)
  refine hK.out _ _ (hHeld.trans gk4) (fun hHeld => ?_)
  clear hK K
  try simp only [List.getElem_toArray, List.getElem_cons_succ, List.getElem_cons_zero, Act.put, List.setIfInBounds_toArray, List.set_cons_zero, List.set_cons_succ]
  refine wpAnyH_ready (rs := [13]) (by kernel_rfl) (by simp) ?_
  refine AllReadyH.cons rfl (fun K hK => ?_) AllReadyH.nil
  go_simp
  refine (same17_c (f := getP xs) HA1.out HB1.out (HV1.out.grew hHeld) (HV2.out.grew hHeld) (HW1.out.grew hHeld) (HW2.out.grew hHeld)).mono ?_
  rintro e wk5 ⟨rfl, gk5⟩
  replace HA1 := Lib.hid (HA1.out.grew gk5)
  replace HB1 := Lib.hid (HB1.out.grew gk5)
  refine hK.out _ _ (hHeld.trans gk5) (fun hHeld => ?_)
  clear hK K
  try simp only [List.getElem_toArray, List.getElem_cons_succ, List.getElem_cons_zero, Act.put, List.setIfInBounds_toArray, List.set_cons_zero, List.set_cons_succ]
  refine wpAnyH_take (i := 14) (v := ?_) rfl (by kernel_rfl) (by kernel_rfl) (by kernel_rfl) (fun _ _ _ h => h) (Or.inl ⟨by rfl, ?_⟩) hHeld ?_
  rotate_left
  · intro wq hSw
    replace hSw : Grew w6 wq := hSw
    go_simp
    try with_reducible rfl
  try simp only [List.getElem_toArray, List.getElem_cons_succ, List.getElem_cons_zero, Act.put, List.setIfInBounds_toArray, List.set_cons_zero, List.set_cons_succ]
  refine wpAnyH_take (i := 15) (v := ?_) rfl (by kernel_rfl) (by kernel_rfl) (by kernel_rfl) (fun _ _ _ h => h) (Or.inl ⟨by rfl, ?_⟩) hHeld ?_
  rotate_left
  · intro wq hSw
    replace hSw : Grew w6 wq := hSw
    go_simp
    try with_reducible rfl
  try simp only [List.getElem_toArray, List.getElem_cons_succ, List.getElem_cons_zero, Act.put, List.setIfInBounds_toArray, List.set_cons_zero, List.set_cons_succ]
  refine wpAnyH_take (i := 16) (v := ?_) rfl (by kernel_rfl) (by kernel_rfl) (by kernel_rfl) (fun _ _ _ h => h) (Or.inl ⟨by rfl, ?_⟩) hHeld ?_
  rotate_left
  · intro wq hSw
    replace hSw : Grew w6 wq := hSw
    go_simp
    try with_reducible rfl
  try simp only [List.getElem_toArray, List.getElem_cons_succ, List.getElem_cons_zero, Act.put, List.setIfInBounds_toArray, List.set_cons_zero, List.set_cons_succ]
  refine wpAnyH_take (i := 17) (v := ?_) rfl (by kernel_rfl) (by kernel_rfl) (by kernel_rfl) (fun _ _ _ h => h) (Or.inl ⟨by rfl, ?_⟩) hHeld ?_
  rotate_left
  · intro wq hSw
    replace hSw : Grew w6 wq := hSw
    go_simp
    try with_reducible rfl
  try simp only [List.getElem_toArray, List.getElem_cons_succ, List.getElem_cons_zero, Act.put, List.setIfInBounds_toArray, List.set_cons_zero, List.set_cons_succ]
  refine wpAnyH_take (i := 18) (v := ?_) rfl (by kernel_rfl) (by kernel_rfl) (by kernel_rfl) (fun _ _ _ h => h) (Or.inl ⟨by rfl, ?_⟩) hHeld ?_
  rotate_left
  · intro wq hSw
    replace hSw : Grew w6 wq := hSw
    have ew := E2.out
    go_simp
    try with_reducible rfl
  try simp only [List.getElem_toArray, List.getElem_cons_succ, List.getElem_cons_zero, Act.put, List.setIfInBounds_toArray, List.set_cons_zero, List.set_cons_succ]
  refine wpAnyH_take (i := 19) (v := ?_) rfl (by kernel_rfl) (by kernel_rfl) (by kernel_rfl) (fun _ _ _ h => h) (Or.inl ⟨by rfl, ?_⟩) hHeld ?_
  rotate_left
  · intro wq hSw
    replace hSw : Grew w6 wq := hSw
    go_simp
    try with_reducible rfl
  try simp only [List.getElem_toArray, List.getElem_cons_succ, List.getElem_cons_zero, Act.put, List.setIfInBounds_toArray, List.set_cons_zero, List.set_cons_succ]
  refine wpAnyH_take (i := 20) (v := ?_) rfl (by kernel_rfl) (by kernel_rfl) (by kernel_rfl) (fun _ _ _ h => h) (Or.inl ⟨by rfl, ?_⟩) hHeld ?_
  rotate_left
  · intro wq hSw
    replace hSw : Grew w6 wq := hSw
    go_simp
    try with_reducible rfl
  try simp only [List.getElem_toArray, List.getElem_cons_succ, List.getElem_cons_zero, Act.put, List.setIfInBounds_toArray, List.set_cons_zero, List.set_cons_succ]
  refine wpAnyH_ready (rs := [21]) (by kernel_rfl) (by simp) ?_
  refine AllReadyH.cons rfl (fun K hK => ?_) AllReadyH.nil
  go_simp
  refine (heads_c (Grew.refl wk5) (sn.grew (G6.trans hHeld))).mono ?_
  rintro e wk6 ⟨rfl, gk6⟩
  replace HA1 := Lib.hid (HA1.out.grew gk6)
  replace HB1 := Lib.hid (HB1.out.grew gk6)
  refine hK.out _ _ (hHeld.trans gk6) (fun hHeld => ?_)
  clear hK K
  try simp only [List.getElem_toArray, List.getElem_cons_succ, List.getElem_cons_zero, Act.put, List.setIfInBounds_toArray, List.set_cons_zero, List.set_cons_succ]
  refine wpAnyH_take (i := 22) (v := ?_) rfl (by kernel_rfl) (by kernel_rfl) (by kernel_rfl) (fun _ _ _ h => h) (Or.inl ⟨by rfl, ?_⟩) hHeld ?_
  rotate_left
  · intro wq hSw
    replace hSw : Grew w6 wq := hSw
    go_simp
    try with_reducible rfl
  try simp only [List.getElem_toArray, List.getElem_cons_succ, List.getElem_cons_zero, Act.put, List.setIfInBounds_toArray, List.set_cons_zero, List.set_cons_succ]
  refine wpAnyH_take (i := 23) (v := ?_) rfl (by kernel_rfl) (by kernel_rfl) (by kernel_rfl) (fun _ _ _ h => h) (Or.inl ⟨by rfl, ?_⟩) hHeld ?_
  rotate_left
  · intro wq hSw
    replace hSw : Grew w6 wq := hSw
    go_simp
    try with_reducible rfl
  try simp only [List.getElem_toArray, List.getElem_cons_succ, List.getElem_cons_zero, Act.put, List.setIfInBounds_toArray, List.set_cons_zero, List.set_cons_succ]
  refine wpAnyH_done (by kernel_rfl) ?_ _
  try simp only [List.getElem_toArray, List.getElem_cons_succ, List.getElem_cons_zero, Act.put, List.setIfInBounds_toArray, List.set_cons_zero, List.set_cons_succ]
  go_wp2_with fail
  go_ret
  exact ⟨rfl, G6.trans hHeld⟩
theorem walk (v : Value) (f : PK) (u : Value) (xs : List Int) {W : World} (sn : SenW W) (hF : Pk W v f) (_ : f.o.length ≤ 140737488355328 ∧ f.x.length ≤ 140737488355328) (hb : Buf W u xs) :
    Calls Tryd.prog 3 #[v, u] W fun e w' => e = .returned (.bool true) ∧ Below W.heap.size W w' := by
  have hF' := hF
  obtain ⟨p1, k1, p2, k2, rfl, _, _⟩ := hF'.shape
  obtain ⟨a, c, rfl, _, _⟩ := hb.shape
  by_cases h1 : (70000 : Int) < (xs.length : Nat)
  · exact walk_far a _ c sn (.inl h1)
  · by_cases h2 : (70000 : Int) < (f.x.length : Nat)
    · exact walk_far a _ c sn (.inr ⟨h1, h2⟩)
    · exact walk_near a _ c xs sn h1 h2 hF hb
set_option maxRecDepth 100000 in
theorem lifted (os : Os) (started : os.Started) (H : Type) (enc : TypeId × Value → H) :
    ReturnsInHanded {} Tryd.checked os 3 .any (fun w args => (Rows.ipTellsSpec.pre enc Tryd.prog Tryd.f3 [] false w args ∧ laidMetH Tryd.prog laid2 w) ∧ sizedMet enc Tryd.prog Tryd.f3 (OpenSpec.ofChange Rows.ipTellsSpec) false w args) (Rows.ipTellsSpec.post enc Tryd.prog Tryd.f3 false true false false) := by
  refine returnsInHanded_of_change_and (C := Tryd.checked) (X := fun w _ => laidMetH Tryd.prog laid2 w) (fun _ _ _ hh h => h.of_heap hh) own started (by kernel_rfl) Tryd.func3
    (ChangeSpec.witness_shaped (enc := enc) (C := Tryd.checked) (os := os) (X := fun w _ => laidMetH Tryd.prog laid2 w) false (World.doorLaid Tryd.prog 400 os) #[.agg #[.int .i64 0, .int .i64 0, .int .i64 0, .int .i64 0, .int .i64 0, .int .i64 0, .int .u32 0, .int .u32 0, .slice none 0 0, .slice none 0 0], .slice none 0 0] 8 rfl (World.shaped_of_RefB (by kernel_rfl) (by kernel_rfl)) (by kernel_rfl) (by kernel_rfl) (by kernel_rfl) (door_met os _)) ?_
  intro W base args ds gs before hval0 hW _ hz0 hL _
  obtain ⟨a0, a1, sn⟩ := sen_of_laid hL
  have hval : ∀ (j : Nat) t v, Tryd.f3.params[j]? = some t → args[j]? = some v → Value.okWide Tryd.prog W .any base t v := hval0
  have hW' := hW
  obtain ⟨p, q, hA0, hV, rfl, hfz, hnd⟩ := hW
  have hA : DataW.TrodAll enc Tryd.prog W 0 (fun _ => true) true Tryd.f3.params.toList args.toList ds p := hA0
  rw [Tryd.params3] at hA hval
  obtain ⟨v0, vs0, d0, ds0, p0, q0, hargs, rfl, rfl, h0, r'0⟩ := trodAll_cons hA
  obtain ⟨v1, vs1, d1, ds1, p1, q1, rfl, rfl, rfl, h1, r'1⟩ := trodAll_cons r'0
  obtain ⟨rfl, rfl, rfl⟩ := trodAll_nil r'1
  obtain rfl : args = #[v0, v1] := by cases args; simp_all
  obtain ⟨f0, k0, z0⟩ := open_ip (hval 0 25 v0 rfl rfl) h0
  have fits0 := z0 (fun m hm => by simpa using List.all_eq_true.1 hz0 _ (DataW.weights_mem_each (j := 0) (t := 25) rfl rfl m hm))
  obtain ⟨x1, k1⟩ := open_buf Tryd.underlying23 Tryd.underlying5 (by kernel_rfl) (hval 1 23 v1 rfl rfl) h1
  refine (walk v0 f0 v1 x1 sn k0 fits0 k1).mono fun e W' ⟨he, hb⟩ => ?_
  subst he
  exact ⟨_, rfl, law_post hW' rfl rfl laid (by kernel_rfl) rfl Tryd.underlying4 hb⟩

theorem over : Rows.ipTellsRow.holds Tryd.pinned (OpenSpec.ofChange Rows.ipTellsSpec) :=
  OpenClaim.holds_of_wide 3 Tryd.f3 rfl rfl rfl rfl rfl rfl rfl ⟨rfl, rfl, rfl, rfl, rfl⟩ rfl rfl rfl rfl rfl (by kernel_rfl) Tryd.func3 (by kernel_rfl)
    (of_decide_eq_true (by kernel_rfl)) (by unfold Func.isWrapper; first | (rw [if_pos (by decide +kernel)]; kernel_rfl) | (rw [if_neg (by decide +kernel)]; exact ⟨rfl, rfl⟩))
    (fun os started H enc _ => lifted os started H enc)

theorem proved : Rows.IpTellsCardSaid :=
  Claim7.holds_tied_plain_at .later [] Rows.ipTellsCard.laidKinds true Rows.ipTellsCard.stood.harness Rows.ipTellsCard.stood.looks
    over (fun _ h => by cases h) (by kernel_rfl) (fun _ h => by cases h) ipTells_row_tie rfl ⟨rfl, rfl⟩ (by kernel_rfl) rfl
    (fun f fn hf hfn => by
      obtain rfl : f = 3 := Option.some.inj ((show Tryd.prog.funcNamed "drawbridge/drawbridgelaw17.IpTells" = some 3 by kernel_rfl).symm.trans hf) |>.symm
      obtain rfl : fn = Tryd.f3 := (Option.some.inj (Tryd.func3.symm.trans hfn)).symm
      exact ⟨by kernel_rfl, fun j t ht => by
        have hall : (Tryd.f3.params.toList.all fun u => !Tryd.prog.wantsStandIn u) = true := by kernel_rfl
        have hm : t ∈ Tryd.f3.params.toList := by simpa using Array.mem_of_getElem? ht
        exact (show Tryd.prog.wantsStandIn t = false by simpa using List.all_eq_true.1 hall t hm)⟩)
    (by kernel_rfl)
#print axioms proved
end Go.Proofs.YtalbdeifkbfnbaaDoor.ipTells
