/-
  Package ip: the pieces of a packet.
-/
import Derived.Test.YtalbdeifkbfnbaaDoorIpE
import Derived.Test.YtalbdeifkbfnbaaDoorTri
set_option maxRecDepth 4000
set_option linter.unusedVariables false
set_option linter.unusedSimpArgs false
namespace Go.Proofs.YtalbdeifkbfnbaaDoor
open Go.RowKit

/-- x | 1 -/
def moreV (x : Int) : Int := if x % 2 = 0 then x + 1 else x
/-- The end of the k-th piece, each of m bytes. -/
def endP (f : PK) (m k : Nat) : Nat := min ((k + 1) * m) f.x.length
def pieceP (f : PK) (m k : Nat) : PK := ⟨f.tos, f.id, if endP f m k < f.x.length then moreV f.fl else f.fl, f.off + ((k * m : Nat) : Int) / 8, f.ttl, f.pr, f.si, f.di, f.o, cutL f.x (k * m) (endP f m k)⟩
/-- How many pieces. -/
def nP (f : PK) (m : Nat) : Nat := (f.x.length + m - 1) / m
def piecesTo (f : PK) (m k : Nat) : List PK := (List.range k).map (pieceP f m)
theorem piecesTo_succ (f : PK) (m k : Nat) : piecesTo f m (k + 1) = piecesTo f m k ++ [pieceP f m k] := by simp [piecesTo, List.range_succ]
theorem piecesTo_len (f : PK) (m k : Nat) : (piecesTo f m k).length = k := by simp [piecesTo]
theorem nP_lt {f : PK} {m : Nat} (hm : 0 < m) (k : Nat) : k < nP f m ↔ k * m < f.x.length := by
  unfold nP
  rw [← Nat.succ_le_iff, Nat.le_div_iff_mul_le hm, Nat.succ_mul]
  omega
theorem or_one (x : Int) (h0 : 0 ≤ x) (h1 : x ≤ 7) : bits .or .i64 x 1 = moreV x := by
  have key : ∀ n : Fin 8, bits .or .i64 ((n.val : Nat) : Int) 1 = moreV ((n.val : Nat) : Int) := by decide +kernel
  have := key ⟨x.toNat, by omega⟩
  rwa [show ((x.toNat : Nat) : Int) = x by omega] at this

set_option maxHeartbeats 4000000 in
theorem pieces_c {f : PK} {p1 : Option Addr} {k1 : Nat} {p2 : Option Addr} {k2 : Nat} (m : Nat) (hm0 : 0 < m) (hm1 : m ≤ 65535) (hok : okP f = true) {w : World} (hv : Pk w (.agg #[.int .i64 f.tos, .int .i64 f.id, .int .i64 f.fl, .int .i64 f.off, .int .i64 f.ttl, .int .i64 f.pr, .int .u32 f.si, .int .u32 f.di, .slice p1 f.o.length k1, .slice p2 f.x.length k2]) f) (hb1 : Buf w (.slice p1 f.o.length k1) f.o) (hb2 : Buf w (.slice p2 f.x.length k2) f.x) :
    Calls Tryd.prog 33 #[.agg #[.int .i64 f.tos, .int .i64 f.id, .int .i64 f.fl, .int .i64 f.off, .int .i64 f.ttl, .int .i64 f.pr, .int .u32 f.si, .int .u32 f.di, .slice p1 f.o.length k1, .slice p2 f.x.length k2], .int .i64 m] w fun e w' => ∃ u, e = .returned u ∧ PkRow w' w.heap.size u (piecesTo f m (nP f m)) ∧ Grew w w' := by
  have hk := okP_spec hok
  obtain ⟨⟨k1', k2', k3', k4', k5', k6'⟩, ho40, ho4, hox⟩ := hk
  have hsi := hv.si
  have hdi := hv.di
  clear hv hok
  go_enter Tryd.func33, Tryd.ntmps33
  go_upto_region 1 with fail
  have hB : Blk (w.alloc (.cells #[.int .i64 f.tos, .int .i64 f.id, .int .i64 f.fl, .int .i64 f.off, .int .i64 f.ttl, .int .i64 f.pr, .int .u32 f.si, .int .u32 f.di, .slice p1 f.o.length k1, .slice p2 f.x.length k2] 25)) w.heap.size #[.int .i64 f.tos, .int .i64 f.id, .int .i64 f.fl, .int .i64 f.off, .int .i64 f.ttl, .int .i64 f.pr, .int .u32 f.si, .int .u32 f.di, .slice p1 f.o.length k1, .slice p2 f.x.length k2] 25 := Blk.new _ _ _ _ rfl
  have g0 : Grew w (w.alloc (.cells #[.int .i64 f.tos, .int .i64 f.id, .int .i64 f.fl, .int .i64 f.off, .int .i64 f.ttl, .int .i64 f.pr, .int .u32 f.si, .int .u32 f.di, .slice p1 f.o.length k1, .slice p2 f.x.length k2] 25)) := (Grew.refl _).alloc _
  generalize (w.alloc (.cells #[.int .i64 f.tos, .int .i64 f.id, .int .i64 f.fl, .int .i64 f.off, .int .i64 f.ttl, .int .i64 f.pr, .int .u32 f.si, .int .u32 f.di, .slice p1 f.o.length k1, .slice p2 f.x.length k2] 25)) = w0 at *
  generalize hlB : w.heap.size = B at *
  have y9 := hB.cell 9
  go_upto_region 4 with (go_at_call 35; refine (cloneB_c (by omega) (hb2.grew g0)).mono ?_; rintro e w1 ⟨ad, cd, rfl, hrow, hbd, g1⟩)
  have G1 := g0.trans g1
  have hB1 := hB.grew g1
  have H1 := Lib.hid (hb1.grew G1)
  have hdo : ∀ k, (Value.slice ad f.x.length cd).ownBlock = some k → w.heap.size ≤ k := fun k hk => by have := hrow.ge k hk; have := g0.size; omega
  have HB := Lib.hid hB1
  have HX := Lib.hid hbd
  have HLB := Lib.hid hlB
  clear hlB hB hB1 hbd hb1 hb2 y9
  generalize w1 = ws at *
  go_loopw [5, 7] (fun v i wr => ∃ k : Nat, k ≤ nP f m ∧ i = .int .i64 ((k * m : Nat) : Int) ∧ Hid (PkRow wr ws.heap.size v (piecesTo f m k)) ∧ (f.x ≠ [] → Off v.ownBlock (.slice ad f.x.length cd)) ∧ Grew ws wr) (fun _ i _ => f.x.length - (intOf i).toNat)
  case atStart => exact ⟨0, Nat.zero_le _, by simp, Lib.hid (PkRow.nil _ _), fun _ => Off.none _, Grew.refl _⟩
  case round =>
    obtain ⟨k, hk, rfl, HR, hoff, g⟩ := hrel
    have hnp := nP_lt (f := f) hm0 k
    have hT2 : (k + 1) * m = k * m + m := Nat.succ_mul k m
    obtain ⟨T, hT⟩ : ∃ T, T = k * m := ⟨_, rfl⟩
    rw [← hT] at hT2 hnp ⊢
    by_cases hlt : T < f.x.length
    · have hlt' : (T : Int) < (f.x.length : Nat) := by omega
      obtain ⟨E, hE⟩ : ∃ E, E = min (T + m) f.x.length := ⟨_, rfl⟩
      obtain ⟨M, hM⟩ : ∃ M, M = T + m := ⟨_, rfl⟩
      rw [← hM] at hE
      by_cases hlast : f.x.length ≤ M
      · skip
        have HE : Hid (endP f m k = E) := Lib.hid (by unfold endP; rw [hT2, hE, hM])
        have kx1 : IntKind.i64.wrap ((T : Int) + (m : Int)) = (M : Int) := by rw [IntWalk.i64_in _ (by omega)]; omega
        have hmin : (if f.x.length < M then ((f.x.length : Nat) : Int) else ((M : Nat) : Int)) = ((E : Nat) : Int) := by split <;> omega
        have kx3 : ¬ (((E : Nat) : Int) < ((f.x.length : Nat) : Int)) := by omega
        have HT2 := Lib.hid hT2
        have HT := Lib.hid hT
        have HM := Lib.hid hM
        have HTE := Lib.hid (show T ≤ E ∧ E ≤ f.x.length by omega)
        have HK := Lib.hid (show k < nP f m by omega)
        have HKN := Lib.hid (show k < f.x.length by have := Nat.le_mul_of_pos_right k hm0; omega)
        clear hE hM hT2 hnp hlast hT hlt hk
        go_upto_region 7 with fail
        try rw [hmin]
        clear hmin kx1
        have hBr := HB.out.grew g
        have y0 := hBr.cell 0
        have y1 := hBr.cell 1
        have y2 := hBr.cell 2
        have y3 := hBr.cell 3
        have y4 := hBr.cell 4
        have y5 := hBr.cell 5
        have y6 := hBr.cell 6
        have y7 := hBr.cell 7
        have y8 := hBr.cell 8
        have y9 := hBr.cell 9
        go_upto_region 8 with fail
        clear y0 y1 y2 y3 y4 y5 y6 y7 y8 y9
        have hD := Blk.new wr #[.int .i64 f.tos, .int .i64 f.id, .int .i64 f.fl, .int .i64 f.off, .int .i64 f.ttl, .int .i64 f.pr, .int .u32 f.si, .int .u32 f.di, .slice p1 f.o.length k1, .slice p2 f.x.length k2] 25 wr.heap.size rfl
        have hg1 : Grew wr (wr.alloc (.cells #[.int .i64 f.tos, .int .i64 f.id, .int .i64 f.fl, .int .i64 f.off, .int .i64 f.ttl, .int .i64 f.pr, .int .u32 f.si, .int .u32 f.di, .slice p1 f.o.length k1, .slice p2 f.x.length k2] 25)) := (Grew.refl _).alloc _
        have hBD : B ≠ wr.heap.size := Nat.ne_of_lt hBr.lt
        have HD := Lib.hid hD
        clear hD
        generalize (wr.alloc (.cells #[.int .i64 f.tos, .int .i64 f.id, .int .i64 f.fl, .int .i64 f.off, .int .i64 f.ttl, .int .i64 f.pr, .int .u32 f.si, .int .u32 f.di, .slice p1 f.o.length k1, .slice p2 f.x.length k2] 25)) = w1 at *
        generalize hDe : wr.heap.size = D at *
        have hlD : wr.heap.size ≤ D := Nat.le_of_eq hDe
        have HDE := Lib.hid hDe
        clear hDe
        obtain ⟨aD, HXD, hao, hrD⟩ := (HX.out.grew g).run_cut3 (lo := T) (hi := E) HTE.out.1 HTE.out.2
        have hxl : E - T = (cutL f.x T E).length := (cutL_length HTE.out.1 HTE.out.2).symm
        rw [hxl] at HXD hrD
        have HFX : Hid (cutL f.x T E = (pieceP f m k).x) := Lib.hid (by show _ = cutL f.x (k * m) (endP f m k); rw [← HT.out, HE.out])
        have HRD : Hid (∀ w', (Instr.sliceAt 23 (.slice ad f.x.length cd) (some (.int .i64 (T : Nat))) (some (.int .i64 (E : Nat))) (some (.int .i64 (E : Nat)))).run Tryd.prog w' = .ok (.slice aD (cutL f.x T E).length (cutL f.x T E).length) w') := Lib.hid (fun w' => hrD .i64 .i64 .i64 w')
        replace HXD := Lib.hid HXD
        clear hrD hxl
        generalize cutL f.x T E = xs' at *
        replace HD := Lib.hid (HD.out.grew ((Grew.refl w1).drew1))
        have hst := hg1.drew1
        refine wp_region_held_drew (S := fun w' => Grew wr w') (by kernel_rfl) (by exact hst) (fun hHeld => ?_)
        replace hHeld : Grew wr w1.drew := hHeld
        generalize w1.drew = wq3 at *
        refine wpAnyH_take (i := 0) (v := ?_) rfl (by kernel_rfl) (by kernel_rfl) (by kernel_rfl) (fun _ _ _ h => h) (Or.inl ⟨by rfl, ?_⟩) hHeld ?_
        rotate_left
        · intro wq hSw
          replace hSw : Grew wr wq := hSw
          go_simp
          try with_reducible rfl
        try simp only [List.getElem_toArray, List.getElem_cons_succ, List.getElem_cons_zero, Act.put, List.setIfInBounds_toArray, List.set_cons_zero, List.set_cons_succ]
        refine wpAnyH_take (i := 1) (v := ?_) rfl (by kernel_rfl) (by kernel_rfl) (by kernel_rfl) (fun _ _ _ h => h) (Or.inl ⟨by rfl, ?_⟩) hHeld ?_
        rotate_left
        · intro wq hSw
          replace hSw : Grew wr wq := hSw
          have y8 := (HB.out.grew (g.trans hSw)).cell 8
          go_simp
          try with_reducible rfl
        try simp only [List.getElem_toArray, List.getElem_cons_succ, List.getElem_cons_zero, Act.put, List.setIfInBounds_toArray, List.set_cons_zero, List.set_cons_succ]
        refine wpAnyH_take (i := 3) (v := ?_) rfl (by kernel_rfl) (by kernel_rfl) (by kernel_rfl) (fun _ _ _ h => h) (Or.inl ⟨by rfl, ?_⟩) hHeld ?_
        rotate_left
        · intro wq hSw
          replace hSw : Grew wr wq := hSw
          go_simp
          try with_reducible rfl
        try simp only [List.getElem_toArray, List.getElem_cons_succ, List.getElem_cons_zero, Act.put, List.setIfInBounds_toArray, List.set_cons_zero, List.set_cons_succ]
        refine wpAnyH_take (i := 4) (v := ?_) rfl (by kernel_rfl) (by kernel_rfl) (by kernel_rfl) (fun _ _ _ h => h) (Or.inl ⟨by rfl, ?_⟩) hHeld ?_
        rotate_left
        · intro wq hSw
          replace hSw : Grew wr wq := hSw
          go_simp
          try with_reducible rfl
        try simp only [List.getElem_toArray, List.getElem_cons_succ, List.getElem_cons_zero, Act.put, List.setIfInBounds_toArray, List.set_cons_zero, List.set_cons_succ]
        refine wpAnyH_take (i := 5) (v := ?_) rfl (by kernel_rfl) (by kernel_rfl) (by kernel_rfl) (fun _ _ _ h => h) (Or.inl ⟨by rfl, ?_⟩) hHeld ?_
        rotate_left
        · intro wq hSw
          replace hSw : Grew wr wq := hSw
          go_simp
          try with_reducible rfl
        try simp only [List.getElem_toArray, List.getElem_cons_succ, List.getElem_cons_zero, Act.put, List.setIfInBounds_toArray, List.set_cons_zero, List.set_cons_succ]
        refine wpAnyH_take (i := 6) (v := ?_) rfl (by kernel_rfl) (by kernel_rfl) (by kernel_rfl) (fun _ _ _ h => h) (Or.inl ⟨by rfl, ?_⟩) hHeld ?_
        rotate_left
        · intro wq hSw
          replace hSw : Grew wr wq := hSw
          go_simp
          try with_reducible rfl
        try simp only [List.getElem_toArray, List.getElem_cons_succ, List.getElem_cons_zero, Act.put, List.setIfInBounds_toArray, List.set_cons_zero, List.set_cons_succ]
        refine wpAnyH_take (i := 7) (v := ?_) rfl (by kernel_rfl) (by kernel_rfl) (by kernel_rfl) (fun _ _ _ h => h) (Or.inl ⟨by rfl, ?_⟩) hHeld ?_
        rotate_left
        · intro wq hSw
          replace hSw : Grew wr wq := hSw
          have r := HRD.out
          go_simp
          try with_reducible rfl
        try simp only [List.getElem_toArray, List.getElem_cons_succ, List.getElem_cons_zero, Act.put, List.setIfInBounds_toArray, List.set_cons_zero, List.set_cons_succ]
        refine wpAnyH_ready (rs := [2]) (by kernel_rfl) (by simp) ?_
        refine AllReadyH.cons rfl (fun K hK => ?_) AllReadyH.nil
        go_simp
        refine (cloneB_c (by omega) (H1.out.grew (g.trans hHeld))).mono ?_
        rintro e wk4 ⟨pa, ka, rfl, hrow, HA, gk4⟩
        have HOA : Hid (Off u5.ownBlock (.slice pa f.o.length ka)) := Lib.hid (Off.ofLt fun q1 h1 q2 h2 => by have a1 := (HR.out.ge q1 h1).2; have a2 := hrow.ge q2 h2; have a3 := hHeld.size; omega)
        clear hrow
        replace HA := Lib.hid HA
        replace HD := Lib.hid (HD.out.grew gk4)
        refine hK.out _ _ (hHeld.trans gk4) (fun hHeld => ?_)
        clear hK K
        try simp only [List.getElem_toArray, List.getElem_cons_succ, List.getElem_cons_zero, Act.put, List.setIfInBounds_toArray, List.set_cons_zero, List.set_cons_succ]
        refine wpAnyH_take (i := 8) (v := ?_) rfl (by kernel_rfl) (by kernel_rfl) (by kernel_rfl) (fun _ _ _ h => h) (Or.inl ⟨by rfl, ?_⟩) hHeld ?_
        rotate_left
        · intro wq hSw
          replace hSw : Grew wr wq := hSw
          go_simp
          try with_reducible rfl
        try simp only [List.getElem_toArray, List.getElem_cons_succ, List.getElem_cons_zero, Act.put, List.setIfInBounds_toArray, List.set_cons_zero, List.set_cons_succ]
        refine wpAnyH_ready (rs := [9]) (by kernel_rfl) (by simp) ?_
        refine AllReadyH.cons rfl (fun K hK => ?_) AllReadyH.nil
        have hDk := HD.out
        have y8 := hDk.cell 8
        have q8 := hDk.free 8
        go_simp
        have GE := hHeld.setCell (b := D) (o := 8) hlD (.slice pa f.o.length ka)
        have kk := BufsKept.box (o := 8) hDk (by simp [noU8]) (.slice pa f.o.length ka)
        replace HD := Lib.hid (hDk.set (o := 8) (.slice pa f.o.length ka))
        replace HA := Lib.hid (kk _ _ HA.out)
        clear hDk y8 q8 kk
        generalize (wk4.setCell ⟨D, 8, none⟩ (.slice pa f.o.length ka)) = wk5 at *
        refine hK.out _ _ (GE) (fun hHeld => ?_)
        clear hK K
        clear GE
        try simp only [List.getElem_toArray, List.getElem_cons_succ, List.getElem_cons_zero, Act.put, List.setIfInBounds_toArray, List.set_cons_zero, List.set_cons_succ]
        refine wpAnyH_take (i := 10) (v := ?_) rfl (by kernel_rfl) (by kernel_rfl) (by kernel_rfl) (fun _ _ _ h => h) (Or.inl ⟨by rfl, ?_⟩) hHeld ?_
        rotate_left
        · intro wq hSw
          replace hSw : Grew wr wq := hSw
          go_simp
          try with_reducible rfl
        try simp only [List.getElem_toArray, List.getElem_cons_succ, List.getElem_cons_zero, Act.put, List.setIfInBounds_toArray, List.set_cons_zero, List.set_cons_succ]
        refine wpAnyH_ready (rs := [11]) (by kernel_rfl) (by simp) ?_
        refine AllReadyH.cons rfl (fun K hK => ?_) AllReadyH.nil
        have hDk := HD.out
        have y8 := hDk.cell 9
        have q8 := hDk.free 9
        go_simp
        have GE := hHeld.setCell (b := D) (o := 9) hlD (.slice aD xs'.length xs'.length)
        have kk := BufsKept.box (o := 9) hDk (by simp [noU8]) (.slice aD xs'.length xs'.length)
        replace HD := Lib.hid (hDk.set (o := 9) (.slice aD xs'.length xs'.length))
        replace HA := Lib.hid (kk _ _ HA.out)
        clear hDk y8 q8 kk
        generalize (wk5.setCell ⟨D, 9, none⟩ (.slice aD xs'.length xs'.length)) = wk6 at *
        refine hK.out _ _ (GE) (fun hHeld => ?_)
        clear hK K
        clear GE
        try simp only [List.getElem_toArray, List.getElem_cons_succ, List.getElem_cons_zero, Act.put, List.setIfInBounds_toArray, List.set_cons_zero, List.set_cons_succ]
        refine wpAnyH_done (by kernel_rfl) ?_ _
        try simp only [List.getElem_toArray, List.getElem_cons_succ, List.getElem_cons_zero, Act.put, List.setIfInBounds_toArray, List.set_cons_zero, List.set_cons_succ]
        have h8 := hHeld
        clear hHeld
        replace HD : Hid (Blk wk6 D #[.int .i64 f.tos, .int .i64 f.id, .int .i64 f.fl, .int .i64 f.off, .int .i64 f.ttl, .int .i64 f.pr, .int .u32 f.si, .int .u32 f.di, .slice pa f.o.length ka, .slice aD xs'.length xs'.length] 25) := HD
        have y3 := HD.out.cell 3
        have f3 := HD.out.free 3
        have ko1 : IntKind.i64.wrap ((T : Int) / 8) = (T : Int) / 8 := IntWalk.i64_in _ (by omega)
        have ko2 : IntKind.i64.wrap (f.off + (T : Int) / 8) = f.off + (T : Int) / 8 := IntWalk.i64_in _ (by omega)
        go_upto_region 10 with fail
        have kk3 := BufsKept.box (o := 3) HD.out (by simp [noU8]) (.int .i64 (f.off + (T : Int) / 8))
        replace HA := Lib.hid (kk3 _ _ HA.out)
        have h9 := h8.setCell (b := D) (o := 3) hlD (.int .i64 (f.off + (T : Int) / 8))
        have HD9 : Hid (Blk (wk6.setCell ⟨D, 3, none⟩ (.int .i64 (f.off + (T : Int) / 8))) D #[.int .i64 f.tos, .int .i64 f.id, .int .i64 f.fl, .int .i64 (f.off + (T : Int) / 8), .int .i64 f.ttl, .int .i64 f.pr, .int .u32 f.si, .int .u32 f.di, .slice pa f.o.length ka, .slice aD xs'.length xs'.length] 25) := Lib.hid (HD.out.set (o := 3) (.int .i64 (f.off + (T : Int) / 8)))
        clear kk3 HD y3 f3 ko1 ko2 h8
        generalize (wk6.setCell ⟨D, 3, none⟩ (.int .i64 (f.off + (T : Int) / 8))) = w9 at *
        go_upto_region 12 with fail
        generalize w9 = w10 at *
        have HQ : Hid (pieceP f m k = (⟨f.tos, f.id, f.fl, f.off + (T : Int) / 8, f.ttl, f.pr, f.si, f.di, f.o, xs'⟩ : PK)) := Lib.hid (by
          rw [HFX.out]
          unfold pieceP
          rw [HE.out, ← HT.out, if_neg (by omega)])
        have g10 := g.trans h9
        have gL : Grew ws (w10.alloc (.cells #[.int .i64 f.tos, .int .i64 f.id, .int .i64 f.fl, .int .i64 (f.off + (T : Int) / 8), .int .i64 f.ttl, .int .i64 f.pr, .int .u32 f.si, .int .u32 f.di, .slice pa f.o.length ka, .slice aD xs'.length xs'.length] 25)) := g10.alloc _
        have HPK : Hid (Pk (w10.alloc (.cells #[.int .i64 f.tos, .int .i64 f.id, .int .i64 f.fl, .int .i64 (f.off + (T : Int) / 8), .int .i64 f.ttl, .int .i64 f.pr, .int .u32 f.si, .int .u32 f.di, .slice pa f.o.length ka, .slice aD xs'.length xs'.length] 25)) (.agg #[.int .i64 f.tos, .int .i64 f.id, .int .i64 f.fl, .int .i64 (f.off + (T : Int) / 8), .int .i64 f.ttl, .int .i64 f.pr, .int .u32 f.si, .int .u32 f.di, .slice pa f.o.length ka, .slice aD xs'.length xs'.length]) (⟨f.tos, f.id, f.fl, f.off + (T : Int) / 8, f.ttl, f.pr, f.si, f.di, f.o, xs'⟩ : PK)) := Lib.hid (Pk.of (HA.out.grew ((Grew.refl w10).alloc _)) (HXD.out.grew (h9.alloc _)) (by unfold intI; omega) (by unfold intI; omega) (by unfold intI; omega) (by unfold intI; omega) (by unfold intI; omega) (by unfold intI; omega) hsi hdi)
        have HRL : Hid (PkRow (w10.alloc (.cells #[.int .i64 f.tos, .int .i64 f.id, .int .i64 f.fl, .int .i64 (f.off + (T : Int) / 8), .int .i64 f.ttl, .int .i64 f.pr, .int .u32 f.si, .int .u32 f.di, .slice pa f.o.length ka, .slice aD xs'.length xs'.length] 25)) ws.heap.size u5 (piecesTo f m k)) := Lib.hid (HR.out.grew (h9.alloc _))
        have HLL := Lib.hid (Blk.new w10 #[.int .i64 f.tos, .int .i64 f.id, .int .i64 f.fl, .int .i64 (f.off + (T : Int) / 8), .int .i64 f.ttl, .int .i64 f.pr, .int .u32 f.si, .int .u32 f.di, .slice pa f.o.length ka, .slice aD xs'.length xs'.length] 25 w10.heap.size rfl)
        have HO2 : Hid (xs' ≠ [] → Off u5.ownBlock (.slice aD xs'.length xs'.length)) := Lib.hid (fun hx => by
          have hne : f.x ≠ [] := by intro e; rw [e] at hlt'; simp at hlt'; omega
          intro gg hg hk
          rw [hao] at hk
          exact hoff hne gg hg hk)
        have HXL := Lib.hid (HX.out.grew gL)
        have y0 := HD9.out.cell 0
        have y1 := HD9.out.cell 1
        have y2 := HD9.out.cell 2
        have y3 := HD9.out.cell 3
        have y4 := HD9.out.cell 4
        have y5 := HD9.out.cell 5
        have y6 := HD9.out.cell 6
        have y7 := HD9.out.cell 7
        have y8 := HD9.out.cell 8
        have y9 := HD9.out.cell 9
        clear hao
        go_upto_region 5 with (refine wpList_append_Pk (f := (⟨f.tos, f.id, f.fl, f.off + (T : Int) / 8, f.ttl, f.pr, f.si, f.di, f.o, xs'⟩ : PK)) (base := ws.heap.size) rfl (.tmp 51) (.tmp 53) rfl HRL.out gL.size HLL.out HPK.out (fun _ => HOA.out) HO2.out (by rw [piecesTo_len]; have := HKN.out; omega) (by rfl) (by rfl) ?_; intro v6 w6 R6 g6 o6)
        have gE : Grew ws w6 := Below.grown gL g6 gL.size (fun q hq => (HRL.out.ge q hq).1)
        have RE : Hid (PkRow w6 ws.heap.size v6 (piecesTo f m (k + 1))) := Lib.hid (by rw [piecesTo_succ, HQ.out]; exact R6.out)
        have HO6 : Hid (f.x ≠ [] → Off v6.ownBlock (.slice ad f.x.length cd)) := Lib.hid (fun hne => by
          rcases o6 with o6 | o6
          · rw [o6]; exact hoff hne
          · rw [o6]; exact HXL.out.offNew hne (Nat.le_refl _))
        have hM := HM.out
        have HMK : Hid (M = (k + 1) * m) := Lib.hid (by rw [HT2.out, hM])
        have kx1 : IntKind.i64.wrap ((T : Int) + (m : Int)) = (M : Int) := by rw [IntWalk.i64_in _ (by omega)]; omega
        clear y0 y1 y2 y3 y4 y5 y6 y7 y8 y9 hM R6 g6 o6 HXL HRL HLL HPK gL hoff
        go_wp2_with fail
        go_roundw
        case rel => exact ⟨k + 1, HK.out, by rw [← HMK.out], RE, HO6.out, gE⟩
        case measure => have := HM.out; simp [intOf]; omega
      · skip
        have HE : Hid (endP f m k = E) := Lib.hid (by unfold endP; rw [hT2, hE, hM])
        have kx1 : IntKind.i64.wrap ((T : Int) + (m : Int)) = (M : Int) := by rw [IntWalk.i64_in _ (by omega)]; omega
        have hmin : (if f.x.length < M then ((f.x.length : Nat) : Int) else ((M : Nat) : Int)) = ((E : Nat) : Int) := by split <;> omega
        have kx3 : (((E : Nat) : Int) < ((f.x.length : Nat) : Int)) := by omega
        have HT2 := Lib.hid hT2
        have HT := Lib.hid hT
        have HM := Lib.hid hM
        have HTE := Lib.hid (show T ≤ E ∧ E ≤ f.x.length by omega)
        have HK := Lib.hid (show k < nP f m by omega)
        have HKN := Lib.hid (show k < f.x.length by have := Nat.le_mul_of_pos_right k hm0; omega)
        clear hE hM hT2 hnp hlast hT hlt hk
        go_upto_region 7 with fail
        try rw [hmin]
        clear hmin kx1
        have hBr := HB.out.grew g
        have y0 := hBr.cell 0
        have y1 := hBr.cell 1
        have y2 := hBr.cell 2
        have y3 := hBr.cell 3
        have y4 := hBr.cell 4
        have y5 := hBr.cell 5
        have y6 := hBr.cell 6
        have y7 := hBr.cell 7
        have y8 := hBr.cell 8
        have y9 := hBr.cell 9
        go_upto_region 8 with fail
        clear y0 y1 y2 y3 y4 y5 y6 y7 y8 y9
        have hD := Blk.new wr #[.int .i64 f.tos, .int .i64 f.id, .int .i64 f.fl, .int .i64 f.off, .int .i64 f.ttl, .int .i64 f.pr, .int .u32 f.si, .int .u32 f.di, .slice p1 f.o.length k1, .slice p2 f.x.length k2] 25 wr.heap.size rfl
        have hg1 : Grew wr (wr.alloc (.cells #[.int .i64 f.tos, .int .i64 f.id, .int .i64 f.fl, .int .i64 f.off, .int .i64 f.ttl, .int .i64 f.pr, .int .u32 f.si, .int .u32 f.di, .slice p1 f.o.length k1, .slice p2 f.x.length k2] 25)) := (Grew.refl _).alloc _
        have hBD : B ≠ wr.heap.size := Nat.ne_of_lt hBr.lt
        have HD := Lib.hid hD
        clear hD
        generalize (wr.alloc (.cells #[.int .i64 f.tos, .int .i64 f.id, .int .i64 f.fl, .int .i64 f.off, .int .i64 f.ttl, .int .i64 f.pr, .int .u32 f.si, .int .u32 f.di, .slice p1 f.o.length k1, .slice p2 f.x.length k2] 25)) = w1 at *
        generalize hDe : wr.heap.size = D at *
        have hlD : wr.heap.size ≤ D := Nat.le_of_eq hDe
        have HDE := Lib.hid hDe
        clear hDe
        obtain ⟨aD, HXD, hao, hrD⟩ := (HX.out.grew g).run_cut3 (lo := T) (hi := E) HTE.out.1 HTE.out.2
        have hxl : E - T = (cutL f.x T E).length := (cutL_length HTE.out.1 HTE.out.2).symm
        rw [hxl] at HXD hrD
        have HFX : Hid (cutL f.x T E = (pieceP f m k).x) := Lib.hid (by show _ = cutL f.x (k * m) (endP f m k); rw [← HT.out, HE.out])
        have HRD : Hid (∀ w', (Instr.sliceAt 23 (.slice ad f.x.length cd) (some (.int .i64 (T : Nat))) (some (.int .i64 (E : Nat))) (some (.int .i64 (E : Nat)))).run Tryd.prog w' = .ok (.slice aD (cutL f.x T E).length (cutL f.x T E).length) w') := Lib.hid (fun w' => hrD .i64 .i64 .i64 w')
        replace HXD := Lib.hid HXD
        clear hrD hxl
        generalize cutL f.x T E = xs' at *
        replace HD := Lib.hid (HD.out.grew ((Grew.refl w1).drew1))
        have hst := hg1.drew1
        refine wp_region_held_drew (S := fun w' => Grew wr w') (by kernel_rfl) (by exact hst) (fun hHeld => ?_)
        replace hHeld : Grew wr w1.drew := hHeld
        generalize w1.drew = wq3 at *
        refine wpAnyH_take (i := 0) (v := ?_) rfl (by kernel_rfl) (by kernel_rfl) (by kernel_rfl) (fun _ _ _ h => h) (Or.inl ⟨by rfl, ?_⟩) hHeld ?_
        rotate_left
        · intro wq hSw
          replace hSw : Grew wr wq := hSw
          go_simp
          try with_reducible rfl
        try simp only [List.getElem_toArray, List.getElem_cons_succ, List.getElem_cons_zero, Act.put, List.setIfInBounds_toArray, List.set_cons_zero, List.set_cons_succ]
        refine wpAnyH_take (i := 1) (v := ?_) rfl (by kernel_rfl) (by kernel_rfl) (by kernel_rfl) (fun _ _ _ h => h) (Or.inl ⟨by rfl, ?_⟩) hHeld ?_
        rotate_left
        · intro wq hSw
          replace hSw : Grew wr wq := hSw
          have y8 := (HB.out.grew (g.trans hSw)).cell 8
          go_simp
          try with_reducible rfl
        try simp only [List.getElem_toArray, List.getElem_cons_succ, List.getElem_cons_zero, Act.put, List.setIfInBounds_toArray, List.set_cons_zero, List.set_cons_succ]
        refine wpAnyH_take (i := 3) (v := ?_) rfl (by kernel_rfl) (by kernel_rfl) (by kernel_rfl) (fun _ _ _ h => h) (Or.inl ⟨by rfl, ?_⟩) hHeld ?_
        rotate_left
        · intro wq hSw
          replace hSw : Grew wr wq := hSw
          go_simp
          try with_reducible rfl
        try simp only [List.getElem_toArray, List.getElem_cons_succ, List.getElem_cons_zero, Act.put, List.setIfInBounds_toArray, List.set_cons_zero, List.set_cons_succ]
        refine wpAnyH_take (i := 4) (v := ?_) rfl (by kernel_rfl) (by kernel_rfl) (by kernel_rfl) (fun _ _ _ h => h) (Or.inl ⟨by rfl, ?_⟩) hHeld ?_
        rotate_left
        · intro wq hSw
          replace hSw : Grew wr wq := hSw
          go_simp
          try with_reducible rfl
        try simp only [List.getElem_toArray, List.getElem_cons_succ, List.getElem_cons_zero, Act.put, List.setIfInBounds_toArray, List.set_cons_zero, List.set_cons_succ]
        refine wpAnyH_take (i := 5) (v := ?_) rfl (by kernel_rfl) (by kernel_rfl) (by kernel_rfl) (fun _ _ _ h => h) (Or.inl ⟨by rfl, ?_⟩) hHeld ?_
        rotate_left
        · intro wq hSw
          replace hSw : Grew wr wq := hSw
          go_simp
          try with_reducible rfl
        try simp only [List.getElem_toArray, List.getElem_cons_succ, List.getElem_cons_zero, Act.put, List.setIfInBounds_toArray, List.set_cons_zero, List.set_cons_succ]
        refine wpAnyH_take (i := 6) (v := ?_) rfl (by kernel_rfl) (by kernel_rfl) (by kernel_rfl) (fun _ _ _ h => h) (Or.inl ⟨by rfl, ?_⟩) hHeld ?_
        rotate_left
        · intro wq hSw
          replace hSw : Grew wr wq := hSw
          go_simp
          try with_reducible rfl
        try simp only [List.getElem_toArray, List.getElem_cons_succ, List.getElem_cons_zero, Act.put, List.setIfInBounds_toArray, List.set_cons_zero, List.set_cons_succ]
        refine wpAnyH_take (i := 7) (v := ?_) rfl (by kernel_rfl) (by kernel_rfl) (by kernel_rfl) (fun _ _ _ h => h) (Or.inl ⟨by rfl, ?_⟩) hHeld ?_
        rotate_left
        · intro wq hSw
          replace hSw : Grew wr wq := hSw
          have r := HRD.out
          go_simp
          try with_reducible rfl
        try simp only [List.getElem_toArray, List.getElem_cons_succ, List.getElem_cons_zero, Act.put, List.setIfInBounds_toArray, List.set_cons_zero, List.set_cons_succ]
        refine wpAnyH_ready (rs := [2]) (by kernel_rfl) (by simp) ?_
        refine AllReadyH.cons rfl (fun K hK => ?_) AllReadyH.nil
        go_simp
        refine (cloneB_c (by omega) (H1.out.grew (g.trans hHeld))).mono ?_
        rintro e wk4 ⟨pa, ka, rfl, hrow, HA, gk4⟩
        have HOA : Hid (Off u5.ownBlock (.slice pa f.o.length ka)) := Lib.hid (Off.ofLt fun q1 h1 q2 h2 => by have a1 := (HR.out.ge q1 h1).2; have a2 := hrow.ge q2 h2; have a3 := hHeld.size; omega)
        clear hrow
        replace HA := Lib.hid HA
        replace HD := Lib.hid (HD.out.grew gk4)
        refine hK.out _ _ (hHeld.trans gk4) (fun hHeld => ?_)
        clear hK K
        try simp only [List.getElem_toArray, List.getElem_cons_succ, List.getElem_cons_zero, Act.put, List.setIfInBounds_toArray, List.set_cons_zero, List.set_cons_succ]
        refine wpAnyH_take (i := 8) (v := ?_) rfl (by kernel_rfl) (by kernel_rfl) (by kernel_rfl) (fun _ _ _ h => h) (Or.inl ⟨by rfl, ?_⟩) hHeld ?_
        rotate_left
        · intro wq hSw
          replace hSw : Grew wr wq := hSw
          go_simp
          try with_reducible rfl
        try simp only [List.getElem_toArray, List.getElem_cons_succ, List.getElem_cons_zero, Act.put, List.setIfInBounds_toArray, List.set_cons_zero, List.set_cons_succ]
        refine wpAnyH_ready (rs := [9]) (by kernel_rfl) (by simp) ?_
        refine AllReadyH.cons rfl (fun K hK => ?_) AllReadyH.nil
        have hDk := HD.out
        have y8 := hDk.cell 8
        have q8 := hDk.free 8
        go_simp
        have GE := hHeld.setCell (b := D) (o := 8) hlD (.slice pa f.o.length ka)
        have kk := BufsKept.box (o := 8) hDk (by simp [noU8]) (.slice pa f.o.length ka)
        replace HD := Lib.hid (hDk.set (o := 8) (.slice pa f.o.length ka))
        replace HA := Lib.hid (kk _ _ HA.out)
        clear hDk y8 q8 kk
        generalize (wk4.setCell ⟨D, 8, none⟩ (.slice pa f.o.length ka)) = wk5 at *
        refine hK.out _ _ (GE) (fun hHeld => ?_)
        clear hK K
        clear GE
        try simp only [List.getElem_toArray, List.getElem_cons_succ, List.getElem_cons_zero, Act.put, List.setIfInBounds_toArray, List.set_cons_zero, List.set_cons_succ]
        refine wpAnyH_take (i := 10) (v := ?_) rfl (by kernel_rfl) (by kernel_rfl) (by kernel_rfl) (fun _ _ _ h => h) (Or.inl ⟨by rfl, ?_⟩) hHeld ?_
        rotate_left
        · intro wq hSw
          replace hSw : Grew wr wq := hSw
          go_simp
          try with_reducible rfl
        try simp only [List.getElem_toArray, List.getElem_cons_succ, List.getElem_cons_zero, Act.put, List.setIfInBounds_toArray, List.set_cons_zero, List.set_cons_succ]
        refine wpAnyH_ready (rs := [11]) (by kernel_rfl) (by simp) ?_
        refine AllReadyH.cons rfl (fun K hK => ?_) AllReadyH.nil
        have hDk := HD.out
        have y8 := hDk.cell 9
        have q8 := hDk.free 9
        go_simp
        have GE := hHeld.setCell (b := D) (o := 9) hlD (.slice aD xs'.length xs'.length)
        have kk := BufsKept.box (o := 9) hDk (by simp [noU8]) (.slice aD xs'.length xs'.length)
        replace HD := Lib.hid (hDk.set (o := 9) (.slice aD xs'.length xs'.length))
        replace HA := Lib.hid (kk _ _ HA.out)
        clear hDk y8 q8 kk
        generalize (wk5.setCell ⟨D, 9, none⟩ (.slice aD xs'.length xs'.length)) = wk6 at *
        refine hK.out _ _ (GE) (fun hHeld => ?_)
        clear hK K
        clear GE
        try simp only [List.getElem_toArray, List.getElem_cons_succ, List.getElem_cons_zero, Act.put, List.setIfInBounds_toArray, List.set_cons_zero, List.set_cons_succ]
        refine wpAnyH_done (by kernel_rfl) ?_ _
        try simp only [List.getElem_toArray, List.getElem_cons_succ, List.getElem_cons_zero, Act.put, List.setIfInBounds_toArray, List.set_cons_zero, List.set_cons_succ]
        have h8 := hHeld
        clear hHeld
        replace HD : Hid (Blk wk6 D #[.int .i64 f.tos, .int .i64 f.id, .int .i64 f.fl, .int .i64 f.off, .int .i64 f.ttl, .int .i64 f.pr, .int .u32 f.si, .int .u32 f.di, .slice pa f.o.length ka, .slice aD xs'.length xs'.length] 25) := HD
        have y3 := HD.out.cell 3
        have f3 := HD.out.free 3
        have ko1 : IntKind.i64.wrap ((T : Int) / 8) = (T : Int) / 8 := IntWalk.i64_in _ (by omega)
        have ko2 : IntKind.i64.wrap (f.off + (T : Int) / 8) = f.off + (T : Int) / 8 := IntWalk.i64_in _ (by omega)
        go_upto_region 10 with fail
        have kk3 := BufsKept.box (o := 3) HD.out (by simp [noU8]) (.int .i64 (f.off + (T : Int) / 8))
        replace HA := Lib.hid (kk3 _ _ HA.out)
        have h9 := h8.setCell (b := D) (o := 3) hlD (.int .i64 (f.off + (T : Int) / 8))
        have HD9 : Hid (Blk (wk6.setCell ⟨D, 3, none⟩ (.int .i64 (f.off + (T : Int) / 8))) D #[.int .i64 f.tos, .int .i64 f.id, .int .i64 f.fl, .int .i64 (f.off + (T : Int) / 8), .int .i64 f.ttl, .int .i64 f.pr, .int .u32 f.si, .int .u32 f.di, .slice pa f.o.length ka, .slice aD xs'.length xs'.length] 25) := Lib.hid (HD.out.set (o := 3) (.int .i64 (f.off + (T : Int) / 8)))
        clear kk3 HD y3 f3 ko1 ko2 h8
        generalize (wk6.setCell ⟨D, 3, none⟩ (.int .i64 (f.off + (T : Int) / 8))) = w9 at *
        have y2 := HD9.out.cell 2
        have f2 := HD9.out.free 2
        have kor : bits .or .i64 f.fl 1 = moreV f.fl := or_one _ (by omega) (by omega)
        go_upto_region 12 with fail
        have kk2 := BufsKept.box (o := 2) HD9.out (by simp [noU8]) (.int .i64 (moreV f.fl))
        replace HA := Lib.hid (kk2 _ _ HA.out)
        replace h9 := h9.setCell (b := D) (o := 2) hlD (.int .i64 (moreV f.fl))
        replace HD9 : Hid (Blk (w9.setCell ⟨D, 2, none⟩ (.int .i64 (moreV f.fl))) D #[.int .i64 f.tos, .int .i64 f.id, .int .i64 (moreV f.fl), .int .i64 (f.off + (T : Int) / 8), .int .i64 f.ttl, .int .i64 f.pr, .int .u32 f.si, .int .u32 f.di, .slice pa f.o.length ka, .slice aD xs'.length xs'.length] 25) := Lib.hid (HD9.out.set (o := 2) (.int .i64 (moreV f.fl)))
        clear kk2 y2 f2 kor
        generalize (w9.setCell ⟨D, 2, none⟩ (.int .i64 (moreV f.fl))) = w10 at *
        have HQ : Hid (pieceP f m k = (⟨f.tos, f.id, (moreV f.fl), f.off + (T : Int) / 8, f.ttl, f.pr, f.si, f.di, f.o, xs'⟩ : PK)) := Lib.hid (by
          rw [HFX.out]
          unfold pieceP
          rw [HE.out, ← HT.out, if_pos (by omega)])
        have g10 := g.trans h9
        have gL : Grew ws (w10.alloc (.cells #[.int .i64 f.tos, .int .i64 f.id, .int .i64 (moreV f.fl), .int .i64 (f.off + (T : Int) / 8), .int .i64 f.ttl, .int .i64 f.pr, .int .u32 f.si, .int .u32 f.di, .slice pa f.o.length ka, .slice aD xs'.length xs'.length] 25)) := g10.alloc _
        have HPK : Hid (Pk (w10.alloc (.cells #[.int .i64 f.tos, .int .i64 f.id, .int .i64 (moreV f.fl), .int .i64 (f.off + (T : Int) / 8), .int .i64 f.ttl, .int .i64 f.pr, .int .u32 f.si, .int .u32 f.di, .slice pa f.o.length ka, .slice aD xs'.length xs'.length] 25)) (.agg #[.int .i64 f.tos, .int .i64 f.id, .int .i64 (moreV f.fl), .int .i64 (f.off + (T : Int) / 8), .int .i64 f.ttl, .int .i64 f.pr, .int .u32 f.si, .int .u32 f.di, .slice pa f.o.length ka, .slice aD xs'.length xs'.length]) (⟨f.tos, f.id, (moreV f.fl), f.off + (T : Int) / 8, f.ttl, f.pr, f.si, f.di, f.o, xs'⟩ : PK)) := Lib.hid (Pk.of (HA.out.grew ((Grew.refl w10).alloc _)) (HXD.out.grew (h9.alloc _)) (by unfold intI; omega) (by unfold intI; omega) (by unfold intI; unfold moreV; split <;> omega) (by unfold intI; omega) (by unfold intI; omega) (by unfold intI; omega) hsi hdi)
        have HRL : Hid (PkRow (w10.alloc (.cells #[.int .i64 f.tos, .int .i64 f.id, .int .i64 (moreV f.fl), .int .i64 (f.off + (T : Int) / 8), .int .i64 f.ttl, .int .i64 f.pr, .int .u32 f.si, .int .u32 f.di, .slice pa f.o.length ka, .slice aD xs'.length xs'.length] 25)) ws.heap.size u5 (piecesTo f m k)) := Lib.hid (HR.out.grew (h9.alloc _))
        have HLL := Lib.hid (Blk.new w10 #[.int .i64 f.tos, .int .i64 f.id, .int .i64 (moreV f.fl), .int .i64 (f.off + (T : Int) / 8), .int .i64 f.ttl, .int .i64 f.pr, .int .u32 f.si, .int .u32 f.di, .slice pa f.o.length ka, .slice aD xs'.length xs'.length] 25 w10.heap.size rfl)
        have HO2 : Hid (xs' ≠ [] → Off u5.ownBlock (.slice aD xs'.length xs'.length)) := Lib.hid (fun hx => by
          have hne : f.x ≠ [] := by intro e; rw [e] at hlt'; simp at hlt'; omega
          intro gg hg hk
          rw [hao] at hk
          exact hoff hne gg hg hk)
        have HXL := Lib.hid (HX.out.grew gL)
        have y0 := HD9.out.cell 0
        have y1 := HD9.out.cell 1
        have y2 := HD9.out.cell 2
        have y3 := HD9.out.cell 3
        have y4 := HD9.out.cell 4
        have y5 := HD9.out.cell 5
        have y6 := HD9.out.cell 6
        have y7 := HD9.out.cell 7
        have y8 := HD9.out.cell 8
        have y9 := HD9.out.cell 9
        clear hao
        go_upto_region 5 with (refine wpList_append_Pk (f := (⟨f.tos, f.id, (moreV f.fl), f.off + (T : Int) / 8, f.ttl, f.pr, f.si, f.di, f.o, xs'⟩ : PK)) (base := ws.heap.size) rfl (.tmp 51) (.tmp 53) rfl HRL.out gL.size HLL.out HPK.out (fun _ => HOA.out) HO2.out (by rw [piecesTo_len]; have := HKN.out; omega) (by rfl) (by rfl) ?_; intro v6 w6 R6 g6 o6)
        have gE : Grew ws w6 := Below.grown gL g6 gL.size (fun q hq => (HRL.out.ge q hq).1)
        have RE : Hid (PkRow w6 ws.heap.size v6 (piecesTo f m (k + 1))) := Lib.hid (by rw [piecesTo_succ, HQ.out]; exact R6.out)
        have HO6 : Hid (f.x ≠ [] → Off v6.ownBlock (.slice ad f.x.length cd)) := Lib.hid (fun hne => by
          rcases o6 with o6 | o6
          · rw [o6]; exact hoff hne
          · rw [o6]; exact HXL.out.offNew hne (Nat.le_refl _))
        have hM := HM.out
        have HMK : Hid (M = (k + 1) * m) := Lib.hid (by rw [HT2.out, hM])
        have kx1 : IntKind.i64.wrap ((T : Int) + (m : Int)) = (M : Int) := by rw [IntWalk.i64_in _ (by omega)]; omega
        clear y0 y1 y2 y3 y4 y5 y6 y7 y8 y9 hM R6 g6 o6 HXL HRL HLL HPK gL hoff
        go_wp2_with fail
        go_roundw
        case rel => exact ⟨k + 1, HK.out, by rw [← HMK.out], RE, HO6.out, gE⟩
        case measure => have := HM.out; simp [intOf]; omega
    · have hlt' : ¬ ((T : Int) < (f.x.length : Nat)) := by omega
      obtain rfl : k = nP f m := by omega
      go_wp2_with fail
      go_ret
      exact ⟨_, rfl, HR.out.low (by have := G1.size; omega), G1.trans g⟩
end Go.Proofs.YtalbdeifkbfnbaaDoor
