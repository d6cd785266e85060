/-
  The document's own Put of a datagram.
-/
import Derived.Test.YtcaafinjphionaaDoorUdR
import Derived.Test.YtcaafinjphionaaDoorRowSet
set_option maxRecDepth 4000
set_option linter.unusedVariables false
set_option linter.unusedSimpArgs false
namespace Go.Proofs.YtcaafinjphionaaDoor
open Go.RowKit

theorem set_two (xs : List Int) (k : Nat) (x y : Int) (h : k + 2 ≤ xs.length) : (xs.set k x).set (k + 1) y = putTwo xs k x y := by
  unfold putTwo
  rw [← lay_cons xs [y] x k (by omega), ← lay_cons (xs.set k x) [] y (k + 1) (by rw [List.length_set]; omega), lay_nil]
theorem refPutU_0 {f : UD} {p1 : Option Addr} {k1 : Nat} (src dst : Int) (q0 : portV f.s = false) (w : World) :
    Calls Tryd.prog 8 #[.agg #[.int .i64 f.s, .int .i64 f.d, .slice p1 f.x.length k1], .int .u32 src, .int .u32 dst] w fun e w' => e = .returned (.tuple #[.slice none 0 0, .int .i64 2]) ∧ Grew w w' := by
  go_enter Tryd.func8, Tryd.ntmps8
  go_upto_region 1 with fail
  have hB : Blk (w.alloc (.cells #[.int .i64 f.s, .int .i64 f.d, .slice p1 f.x.length k1] 24)) w.heap.size #[.int .i64 f.s, .int .i64 f.d, .slice p1 f.x.length k1] 24 := Blk.new _ _ _ _ rfl
  have g0 : Grew w (w.alloc (.cells #[.int .i64 f.s, .int .i64 f.d, .slice p1 f.x.length k1] 24)) := (Grew.refl _).alloc _
  generalize (w.alloc (.cells #[.int .i64 f.s, .int .i64 f.d, .slice p1 f.x.length k1] 24)) = w0 at *
  generalize hlB : w.heap.size = B at *
  have y0 := hB.cell 0
  have y1 := hB.cell 1
  have y2 := hB.cell 2
  go_wp2_with (first | (go_at_call 18; refine (refPort_c _ _ (by assumption) _).mono ?_; rintro e w2 ⟨rfl, h2⟩; obtain rfl := h2.symm))
  go_ret2
  exact ⟨rfl, g0⟩
theorem refPutU_1 {f : UD} {p1 : Option Addr} {k1 : Nat} (src dst : Int) (q0 : portV f.s = true) (q1 : portV f.d = false) (w : World) :
    Calls Tryd.prog 8 #[.agg #[.int .i64 f.s, .int .i64 f.d, .slice p1 f.x.length k1], .int .u32 src, .int .u32 dst] w fun e w' => e = .returned (.tuple #[.slice none 0 0, .int .i64 2]) ∧ Grew w w' := by
  go_enter Tryd.func8, Tryd.ntmps8
  go_upto_region 1 with fail
  have hB : Blk (w.alloc (.cells #[.int .i64 f.s, .int .i64 f.d, .slice p1 f.x.length k1] 24)) w.heap.size #[.int .i64 f.s, .int .i64 f.d, .slice p1 f.x.length k1] 24 := Blk.new _ _ _ _ rfl
  have g0 : Grew w (w.alloc (.cells #[.int .i64 f.s, .int .i64 f.d, .slice p1 f.x.length k1] 24)) := (Grew.refl _).alloc _
  generalize (w.alloc (.cells #[.int .i64 f.s, .int .i64 f.d, .slice p1 f.x.length k1] 24)) = w0 at *
  generalize hlB : w.heap.size = B at *
  have y0 := hB.cell 0
  have y1 := hB.cell 1
  have y2 := hB.cell 2
  go_wp2_with (first | (go_at_call 18; refine (refPort_c _ _ (by assumption) _).mono ?_; rintro e w2 ⟨rfl, h2⟩; obtain rfl := h2.symm))
  go_ret2
  exact ⟨rfl, g0⟩
theorem refPutU_2 {f : UD} {p1 : Option Addr} {k1 : Nat} (src dst : Int) (q0 : portV f.s = true) (q1 : portV f.d = true) (q2 : (65507 : Int) < (f.x.length : Nat)) (w : World) :
    Calls Tryd.prog 8 #[.agg #[.int .i64 f.s, .int .i64 f.d, .slice p1 f.x.length k1], .int .u32 src, .int .u32 dst] w fun e w' => e = .returned (.tuple #[.slice none 0 0, .int .i64 2]) ∧ Grew w w' := by
  go_enter Tryd.func8, Tryd.ntmps8
  go_upto_region 1 with fail
  have hB : Blk (w.alloc (.cells #[.int .i64 f.s, .int .i64 f.d, .slice p1 f.x.length k1] 24)) w.heap.size #[.int .i64 f.s, .int .i64 f.d, .slice p1 f.x.length k1] 24 := Blk.new _ _ _ _ rfl
  have g0 : Grew w (w.alloc (.cells #[.int .i64 f.s, .int .i64 f.d, .slice p1 f.x.length k1] 24)) := (Grew.refl _).alloc _
  generalize (w.alloc (.cells #[.int .i64 f.s, .int .i64 f.d, .slice p1 f.x.length k1] 24)) = w0 at *
  generalize hlB : w.heap.size = B at *
  have y0 := hB.cell 0
  have y1 := hB.cell 1
  have y2 := hB.cell 2
  go_wp2_with (first | (go_at_call 18; refine (refPort_c _ _ (by assumption) _).mono ?_; rintro e w2 ⟨rfl, h2⟩; obtain rfl := h2.symm))
  go_ret2
  exact ⟨rfl, g0⟩
set_option maxHeartbeats 8000000 in
theorem refPutU_yes {f : UD} {p1 : Option Addr} {k1 : Nat} (src dst : Int) (hs : 0 ≤ src ∧ src < 4294967296) (hd : 0 ≤ dst ∧ dst < 4294967296) (hok : okU f = true) {w : World} (hb1 : Buf w (.slice p1 f.x.length k1) f.x) :
    Calls Tryd.prog 8 #[.agg #[.int .i64 f.s, .int .i64 f.d, .slice p1 f.x.length k1], .int .u32 src, .int .u32 dst] w fun e w' => ∃ u, e = .returned (.tuple #[u, .int .i64 0]) ∧ Buf w' u (putU f src dst) ∧ Grew w w' := by
  have hk := okU_spec hok
  obtain ⟨⟨hs0, hs1'⟩, ⟨hd0, hd1'⟩, hxl⟩ := hk
  have q0 : portV f.s = true := by unfold portV; exact decide_eq_true (by omega)
  have q1 : portV f.d = true := by unfold portV; exact decide_eq_true (by omega)
  have q2 : ¬ ((65507 : Int) < (f.x.length : Nat)) := by omega
  have hs1 : f.s ≤ 9223372036854775807 := by omega
  have hd1 : f.d ≤ 9223372036854775807 := by omega
  have hu : (ulN f : Int) = 8 + (f.x.length : Nat) := by unfold ulN; omega
  have EN := Lib.hid (show wrap64 (8 + (f.x.length : Int)) = (ulN f : Int) by rw [hu]; exact IntWalk.wrap64_in _ (by omega))
  have HNB := Lib.hid (show (ulN f : Int) ≤ 9223372036854775807 by omega)
  have HUL := Lib.hid (show 8 ≤ ulN f ∧ ulN f ≤ 65515 by omega)
  have HL1 := Lib.hid (show (putL f.s 2 true).length + (putL f.d 2 true).length ≤ 140737488355328 by simp only [putB_len]; omega)
  have HL2 := Lib.hid (show (putL f.s 2 true ++ putL f.d 2 true).length + (putL (ulN f : Nat) 2 true).length ≤ 140737488355328 by simp only [List.length_append, putB_len]; omega)
  have HL3 := Lib.hid (show (putL f.s 2 true ++ putL f.d 2 true ++ putL (ulN f : Nat) 2 true).length + ([0, 0] : List Int).length ≤ 140737488355328 by simp only [List.length_append, putB_len, List.length_cons, List.length_nil]; omega)
  have HL4 := Lib.hid (show (putL f.s 2 true ++ putL f.d 2 true ++ putL (ulN f : Nat) 2 true ++ [0, 0]).length + f.x.length ≤ 140737488355328 by simp only [List.length_append, putB_len, List.length_cons, List.length_nil]; omega)
  have HXO := Lib.hid hb1.ok
  have H1 := Lib.hid hb1
  clear hb1 hs1' hd1' hok hxl hu
  go_enter Tryd.func8, Tryd.ntmps8
  go_upto_region 1 with fail
  have hB : Blk (w.alloc (.cells #[.int .i64 f.s, .int .i64 f.d, .slice p1 f.x.length k1] 24)) w.heap.size #[.int .i64 f.s, .int .i64 f.d, .slice p1 f.x.length k1] 24 := Blk.new _ _ _ _ rfl
  have g0 : Grew w (w.alloc (.cells #[.int .i64 f.s, .int .i64 f.d, .slice p1 f.x.length k1] 24)) := (Grew.refl _).alloc _
  generalize (w.alloc (.cells #[.int .i64 f.s, .int .i64 f.d, .slice p1 f.x.length k1] 24)) = w0 at *
  generalize hlB : w.heap.size = B at *
  have HB := Lib.hid hB
  have en := EN.out
  have y0 := hB.cell 0
  have y1 := hB.cell 1
  have y2 := hB.cell 2
  go_upto_region 4 with (first | (go_at_call 18; refine (refPort_c _ _ (by assumption) _).mono ?_; rintro e w2 ⟨rfl, h2⟩; obtain rfl := h2.symm))
  clear y0 y1 y2 hB en q0 q1 q2
  go_cut [9] (fun v wx => Hid (Row wx w0.heap.size v (rawU f)) ∧ Grew w0 wx)
  case first =>
    have hst := (Grew.refl w0).drew1
    refine wp_region_held_drew (S := fun w' => Grew w0 w') (by kernel_rfl) (by exact hst) (fun hHeld => ?_)
    replace hHeld : Grew w0 w0.drew := hHeld
    generalize w0.drew = wq1 at *
    refine wpAnyH_take (i := 0) (v := ?_) rfl (by kernel_rfl) (by kernel_rfl) (by kernel_rfl) (fun _ _ _ h => h) (Or.inl ⟨by rfl, ?_⟩) hHeld ?_
    rotate_left
    · intro wq hSw
      replace hSw : Grew w0 wq := hSw
      go_simp
      try with_reducible rfl
    try simp only [List.getElem_toArray, List.getElem_cons_succ, List.getElem_cons_zero, Act.put, List.setIfInBounds_toArray, List.set_cons_zero, List.set_cons_succ]
    refine wpAnyH_take (i := 1) (v := ?_) rfl (by kernel_rfl) (by kernel_rfl) (by kernel_rfl) (fun _ _ _ h => h) (Or.inl ⟨by rfl, ?_⟩) hHeld ?_
    rotate_left
    · intro wq hSw
      replace hSw : Grew w0 wq := hSw
      have y0 := (HB.out.grew hSw).cell 0
      go_simp
      try with_reducible rfl
    try simp only [List.getElem_toArray, List.getElem_cons_succ, List.getElem_cons_zero, Act.put, List.setIfInBounds_toArray, List.set_cons_zero, List.set_cons_succ]
    refine wpAnyH_take (i := 3) (v := ?_) rfl (by kernel_rfl) (by kernel_rfl) (by kernel_rfl) (fun _ _ _ h => h) (Or.inl ⟨by rfl, ?_⟩) hHeld ?_
    rotate_left
    · intro wq hSw
      replace hSw : Grew w0 wq := hSw
      go_simp
      try with_reducible rfl
    try simp only [List.getElem_toArray, List.getElem_cons_succ, List.getElem_cons_zero, Act.put, List.setIfInBounds_toArray, List.set_cons_zero, List.set_cons_succ]
    refine wpAnyH_take (i := 4) (v := ?_) rfl (by kernel_rfl) (by kernel_rfl) (by kernel_rfl) (fun _ _ _ h => h) (Or.inl ⟨by rfl, ?_⟩) hHeld ?_
    rotate_left
    · intro wq hSw
      replace hSw : Grew w0 wq := hSw
      have y1 := (HB.out.grew hSw).cell 1
      go_simp
      try with_reducible rfl
    try simp only [List.getElem_toArray, List.getElem_cons_succ, List.getElem_cons_zero, Act.put, List.setIfInBounds_toArray, List.set_cons_zero, List.set_cons_succ]
    refine wpAnyH_take (i := 7) (v := ?_) rfl (by kernel_rfl) (by kernel_rfl) (by kernel_rfl) (fun _ _ _ h => h) (Or.inl ⟨by rfl, ?_⟩) hHeld ?_
    rotate_left
    · intro wq hSw
      replace hSw : Grew w0 wq := hSw
      go_simp
      try with_reducible rfl
    try simp only [List.getElem_toArray, List.getElem_cons_succ, List.getElem_cons_zero, Act.put, List.setIfInBounds_toArray, List.set_cons_zero, List.set_cons_succ]
    refine wpAnyH_take (i := 12) (v := ?_) rfl (by kernel_rfl) (by kernel_rfl) (by kernel_rfl) (fun _ _ _ h => h) (Or.inl ⟨by rfl, ?_⟩) hHeld ?_
    rotate_left
    · intro wq hSw
      replace hSw : Grew w0 wq := hSw
      go_simp
      try with_reducible rfl
    try simp only [List.getElem_toArray, List.getElem_cons_succ, List.getElem_cons_zero, Act.put, List.setIfInBounds_toArray, List.set_cons_zero, List.set_cons_succ]
    refine wpAnyH_take (i := 13) (v := ?_) rfl (by kernel_rfl) (by kernel_rfl) (by kernel_rfl) (fun _ _ _ h => h) (Or.inl ⟨by rfl, ?_⟩) hHeld ?_
    rotate_left
    · intro wq hSw
      replace hSw : Grew w0 wq := hSw
      have y2 := (HB.out.grew hSw).cell 2
      go_simp
      try with_reducible rfl
    try simp only [List.getElem_toArray, List.getElem_cons_succ, List.getElem_cons_zero, Act.put, List.setIfInBounds_toArray, List.set_cons_zero, List.set_cons_succ]
    refine wpAnyH_ready (rs := [2, 10]) (by kernel_rfl) (by simp) ?_
    refine AllReadyH.cons rfl (fun K hK => ?_) (AllReadyH.cons rfl (fun K hK => ?_) AllReadyH.nil)
    · go_simp
      refine (refTwo18_c (f.s) hs0 hs1 wq1).mono ?_
      rintro e wk2 ⟨pa, ca, rfl, Ra, Ha, gk2⟩
      replace Ra := Lib.hid (Ra.low hHeld.size)
      clear Ha
      refine hK.out _ _ (hHeld.trans gk2) (fun hHeld => ?_)
      clear hK K
      try simp only [List.getElem_toArray, List.getElem_cons_succ, List.getElem_cons_zero, Act.put, List.setIfInBounds_toArray, List.set_cons_zero, List.set_cons_succ]
      refine wpAnyH_ready (rs := [5, 10]) (by kernel_rfl) (by simp) ?_
      refine AllReadyH.cons rfl (fun K hK => ?_) (AllReadyH.cons rfl (fun K hK => ?_) AllReadyH.nil)
      · go_simp
        refine (refTwo18_c (f.d) hd0 hd1 wk2).mono ?_
        rintro e wk3 ⟨pb, cb, rfl, Rb, Hb, gk3⟩
        replace Hb := Lib.hid Hb
        clear Rb
        replace Ra := Lib.hid (Ra.out.grew gk3)
        refine hK.out _ _ (hHeld.trans gk3) (fun hHeld => ?_)
        clear hK K
        try simp only [List.getElem_toArray, List.getElem_cons_succ, List.getElem_cons_zero, Act.put, List.setIfInBounds_toArray, List.set_cons_zero, List.set_cons_succ]
        refine wpAnyH_ready (rs := [6, 10]) (by kernel_rfl) (by simp) ?_
        refine AllReadyH.cons rfl (fun K hK => ?_) (AllReadyH.cons rfl (fun K hK => ?_) AllReadyH.nil)
        · refine step_append_off (by simp [Region.wanted]) (.tmp 33) (.tmp 36) rfl hHeld Ra.out (Hb.out) (by rfl) (by rfl) HL1.out ?_
          intro vR2 wk4 R2 gk4 KR2 gb
          clear gb
          clear KR2
          refine hK.out _ _ (gk4) (fun hHeld => ?_)
          clear hK K
          try simp only [List.getElem_toArray, List.getElem_cons_succ, List.getElem_cons_zero, Act.put, List.setIfInBounds_toArray, List.set_cons_zero, List.set_cons_succ]
          refine wpAnyH_ready (rs := [8, 10]) (by kernel_rfl) (by simp) ?_
          refine AllReadyH.cons rfl (fun K hK => ?_) (AllReadyH.cons rfl (fun K hK => ?_) AllReadyH.nil)
          · go_simp
            refine (refTwo18_c ((ulN f : Nat)) (by omega) HNB.out wk4).mono ?_
            rintro e wk5 ⟨pc, cc, rfl, Rc, Hc, gk5⟩
            replace Hc := Lib.hid Hc
            clear Rc
            replace R2 := Lib.hid (R2.out.grew gk5)
            refine hK.out _ _ (hHeld.trans gk5) (fun hHeld => ?_)
            clear hK K
            try simp only [List.getElem_toArray, List.getElem_cons_succ, List.getElem_cons_zero, Act.put, List.setIfInBounds_toArray, List.set_cons_zero, List.set_cons_succ]
            refine wpAnyH_ready (rs := [9, 10]) (by kernel_rfl) (by simp) ?_
            refine AllReadyH.cons rfl (fun K hK => ?_) (AllReadyH.cons rfl (fun K hK => ?_) AllReadyH.nil)
            · refine step_append_off (by simp [Region.wanted]) (.tmp 37) (.tmp 39) rfl hHeld R2.out (Hc.out) (by rfl) (by rfl) HL2.out ?_
              intro vR3 wk6 R3 gk6 KR3 gb
              clear gb
              clear KR3
              refine hK.out _ _ (gk6) (fun hHeld => ?_)
              clear hK K
              try simp only [List.getElem_toArray, List.getElem_cons_succ, List.getElem_cons_zero, Act.put, List.setIfInBounds_toArray, List.set_cons_zero, List.set_cons_succ]
              refine wpAnyH_ready (rs := [10]) (by kernel_rfl) (by simp) ?_
              refine AllReadyH.cons rfl (fun K hK => ?_) AllReadyH.nil
              go_simp
              have H0 : Hid (Buf (wk6.alloc (.cells #[.int .u8 0, .int .u8 0] 5)) (.slice (some ⟨wk6.heap.size, 0, none⟩) 2 2) [0, 0]) := Lib.hid ((Row.lit wk6 wk6.heap.size (Nat.le_refl _) #[.int .u8 0, .int .u8 0] [0, 0] rfl (by unfold maxLen; simp) _ rfl 2 rfl).buf (two_ok 0 0 (by omega) (by omega)))
              have gk7 : Grew wk6 (wk6.alloc (.cells #[.int .u8 0, .int .u8 0] 5)) := (Grew.refl _).alloc _
              have HO0 : Hid (([0, 0] : List Int) ≠ [] → Off vR3.ownBlock (.slice (some ⟨wk6.heap.size, 0, none⟩) 2 2)) := Lib.hid (fun _ q hq hk => by have h1 := R3.out.lt q hq; simp only [Value.ownBlock, Option.some.injEq] at hk; omega)
              replace R3 := Lib.hid (R3.out.grew gk7)
              generalize (wk6.alloc (.cells #[.int .u8 0, .int .u8 0] 5)) = wk7 at *
              generalize wk6.heap.size = L0 at *
              refine hK.out _ _ (hHeld.trans gk7) (fun hHeld => ?_)
              clear hK K
              try simp only [List.getElem_toArray, List.getElem_cons_succ, List.getElem_cons_zero, Act.put, List.setIfInBounds_toArray, List.set_cons_zero, List.set_cons_succ]
              refine wpAnyH_ready (rs := [11]) (by kernel_rfl) (by simp) ?_
              refine AllReadyH.cons rfl (fun K hK => ?_) AllReadyH.nil
              refine step_append_off (by simp [Region.wanted]) (.tmp 40) (.tmp 41) rfl hHeld R3.out (H0.out) (by rfl) (by rfl) HL3.out ?_
              intro vR4 wk8 R4 gk8 KR4 gb
              clear gb
              replace HO0 : Hid ((([0, 0] : List Int) ≠ [] → Off vR4.ownBlock (.slice (some ⟨L0, 0, none⟩) 2 2)) ∧ Buf wk8 (.slice (some ⟨L0, 0, none⟩) 2 2) [0, 0]) := Lib.hid ⟨(KR4.out _ _ H0.out HO0.out).2, (KR4.out _ _ H0.out HO0.out).1⟩
              replace H0 := Lib.hid HO0.out.2
              replace HO0 := Lib.hid HO0.out.1
              clear KR4
              refine hK.out _ _ (gk8) (fun hHeld => ?_)
              clear hK K
              try simp only [List.getElem_toArray, List.getElem_cons_succ, List.getElem_cons_zero, Act.put, List.setIfInBounds_toArray, List.set_cons_zero, List.set_cons_succ]
              refine wpAnyH_ready (rs := [14]) (by kernel_rfl) (by simp) ?_
              refine AllReadyH.cons rfl (fun K hK => ?_) AllReadyH.nil
              refine step_append_off (by simp [Region.wanted]) (.tmp 42) (.tmp 44) rfl hHeld R4.out (H1.out.grew (g0.trans hHeld)) (by rfl) (by rfl) HL4.out ?_
              intro vR5 wk9 R5 gk9 KR5 gb
              clear gb
              replace HO0 : Hid ((([0, 0] : List Int) ≠ [] → Off vR5.ownBlock (.slice (some ⟨L0, 0, none⟩) 2 2)) ∧ Buf wk9 (.slice (some ⟨L0, 0, none⟩) 2 2) [0, 0]) := Lib.hid ⟨(KR5.out _ _ H0.out HO0.out).2, (KR5.out _ _ H0.out HO0.out).1⟩
              replace H0 := Lib.hid HO0.out.2
              replace HO0 := Lib.hid HO0.out.1
              clear KR5
              refine hK.out _ _ (gk9) (fun hHeld => ?_)
              clear hK K
              try simp only [List.getElem_toArray, List.getElem_cons_succ, List.getElem_cons_zero, Act.put, List.setIfInBounds_toArray, List.set_cons_zero, List.set_cons_succ]
              refine wpAnyH_take (i := 15) (v := ?_) rfl (by kernel_rfl) (by kernel_rfl) (by kernel_rfl) (fun _ _ _ h => h) (Or.inl ⟨by rfl, ?_⟩) hHeld ?_
              rotate_left
              · intro wq hSw
                replace hSw : Grew w0 wq := hSw
                go_simp
                try with_reducible rfl
              try simp only [List.getElem_toArray, List.getElem_cons_succ, List.getElem_cons_zero, Act.put, List.setIfInBounds_toArray, List.set_cons_zero, List.set_cons_succ]
              refine wpAnyH_done (by kernel_rfl) ?_ _
              try simp only [List.getElem_toArray, List.getElem_cons_succ, List.getElem_cons_zero, Act.put, List.setIfInBounds_toArray, List.set_cons_zero, List.set_cons_succ]
              go_wp2_with fail
              go_meet
              exact ⟨Lib.hid R5.out, hHeld⟩
            · go_simp
              have H0 : Hid (Buf (wk5.alloc (.cells #[.int .u8 0, .int .u8 0] 5)) (.slice (some ⟨wk5.heap.size, 0, none⟩) 2 2) [0, 0]) := Lib.hid ((Row.lit wk5 wk5.heap.size (Nat.le_refl _) #[.int .u8 0, .int .u8 0] [0, 0] rfl (by unfold maxLen; simp) _ rfl 2 rfl).buf (two_ok 0 0 (by omega) (by omega)))
              have gk10 : Grew wk5 (wk5.alloc (.cells #[.int .u8 0, .int .u8 0] 5)) := (Grew.refl _).alloc _
              have HO0 : Hid (([0, 0] : List Int) ≠ [] → Off vR2.ownBlock (.slice (some ⟨wk5.heap.size, 0, none⟩) 2 2)) := Lib.hid (fun _ q hq hk => by have h1 := R2.out.lt q hq; simp only [Value.ownBlock, Option.some.injEq] at hk; omega)
              replace R2 := Lib.hid (R2.out.grew gk10)
              replace Hc := Lib.hid (Hc.out.grew gk10)
              generalize (wk5.alloc (.cells #[.int .u8 0, .int .u8 0] 5)) = wk10 at *
              generalize wk5.heap.size = L0 at *
              refine hK.out _ _ (hHeld.trans gk10) (fun hHeld => ?_)
              clear hK K
              try simp only [List.getElem_toArray, List.getElem_cons_succ, List.getElem_cons_zero, Act.put, List.setIfInBounds_toArray, List.set_cons_zero, List.set_cons_succ]
              refine wpAnyH_ready (rs := [9]) (by kernel_rfl) (by simp) ?_
              refine AllReadyH.cons rfl (fun K hK => ?_) AllReadyH.nil
              refine step_append_off (by simp [Region.wanted]) (.tmp 37) (.tmp 39) rfl hHeld R2.out (Hc.out) (by rfl) (by rfl) HL2.out ?_
              intro vR3 wk11 R3 gk11 KR3 gb
              clear gb
              replace HO0 : Hid ((([0, 0] : List Int) ≠ [] → Off vR3.ownBlock (.slice (some ⟨L0, 0, none⟩) 2 2)) ∧ Buf wk11 (.slice (some ⟨L0, 0, none⟩) 2 2) [0, 0]) := Lib.hid ⟨(KR3.out _ _ H0.out HO0.out).2, (KR3.out _ _ H0.out HO0.out).1⟩
              replace H0 := Lib.hid HO0.out.2
              replace HO0 := Lib.hid HO0.out.1
              clear KR3
              refine hK.out _ _ (gk11) (fun hHeld => ?_)
              clear hK K
              try simp only [List.getElem_toArray, List.getElem_cons_succ, List.getElem_cons_zero, Act.put, List.setIfInBounds_toArray, List.set_cons_zero, List.set_cons_succ]
              refine wpAnyH_ready (rs := [11]) (by kernel_rfl) (by simp) ?_
              refine AllReadyH.cons rfl (fun K hK => ?_) AllReadyH.nil
              refine step_append_off (by simp [Region.wanted]) (.tmp 40) (.tmp 41) rfl hHeld R3.out (H0.out) (by rfl) (by rfl) HL3.out ?_
              intro vR4 wk12 R4 gk12 KR4 gb
              clear gb
              replace HO0 : Hid ((([0, 0] : List Int) ≠ [] → Off vR4.ownBlock (.slice (some ⟨L0, 0, none⟩) 2 2)) ∧ Buf wk12 (.slice (some ⟨L0, 0, none⟩) 2 2) [0, 0]) := Lib.hid ⟨(KR4.out _ _ H0.out HO0.out).2, (KR4.out _ _ H0.out HO0.out).1⟩
              replace H0 := Lib.hid HO0.out.2
              replace HO0 := Lib.hid HO0.out.1
              clear KR4
              refine hK.out _ _ (gk12) (fun hHeld => ?_)
              clear hK K
              try simp only [List.getElem_toArray, List.getElem_cons_succ, List.getElem_cons_zero, Act.put, List.setIfInBounds_toArray, List.set_cons_zero, List.set_cons_succ]
              refine wpAnyH_ready (rs := [14]) (by kernel_rfl) (by simp) ?_
              refine AllReadyH.cons rfl (fun K hK => ?_) AllReadyH.nil
              refine step_append_off (by simp [Region.wanted]) (.tmp 42) (.tmp 44) rfl hHeld R4.out (H1.out.grew (g0.trans hHeld)) (by rfl) (by rfl) HL4.out ?_
              intro vR5 wk13 R5 gk13 KR5 gb
              clear gb
              replace HO0 : Hid ((([0, 0] : List Int) ≠ [] → Off vR5.ownBlock (.slice (some ⟨L0, 0, none⟩) 2 2)) ∧ Buf wk13 (.slice (some ⟨L0, 0, none⟩) 2 2) [0, 0]) := Lib.hid ⟨(KR5.out _ _ H0.out HO0.out).2, (KR5.out _ _ H0.out HO0.out).1⟩
              replace H0 := Lib.hid HO0.out.2
              replace HO0 := Lib.hid HO0.out.1
              clear KR5
              refine hK.out _ _ (gk13) (fun hHeld => ?_)
              clear hK K
              try simp only [List.getElem_toArray, List.getElem_cons_succ, List.getElem_cons_zero, Act.put, List.setIfInBounds_toArray, List.set_cons_zero, List.set_cons_succ]
              refine wpAnyH_take (i := 15) (v := ?_) rfl (by kernel_rfl) (by kernel_rfl) (by kernel_rfl) (fun _ _ _ h => h) (Or.inl ⟨by rfl, ?_⟩) hHeld ?_
              rotate_left
              · intro wq hSw
                replace hSw : Grew w0 wq := hSw
                go_simp
                try with_reducible rfl
              try simp only [List.getElem_toArray, List.getElem_cons_succ, List.getElem_cons_zero, Act.put, List.setIfInBounds_toArray, List.set_cons_zero, List.set_cons_succ]
              refine wpAnyH_done (by kernel_rfl) ?_ _
              try simp only [List.getElem_toArray, List.getElem_cons_succ, List.getElem_cons_zero, Act.put, List.setIfInBounds_toArray, List.set_cons_zero, List.set_cons_succ]
              go_wp2_with fail
              go_meet
              exact ⟨Lib.hid R5.out, hHeld⟩
          · go_simp
            have H0 : Hid (Buf (wk4.alloc (.cells #[.int .u8 0, .int .u8 0] 5)) (.slice (some ⟨wk4.heap.size, 0, none⟩) 2 2) [0, 0]) := Lib.hid ((Row.lit wk4 wk4.heap.size (Nat.le_refl _) #[.int .u8 0, .int .u8 0] [0, 0] rfl (by unfold maxLen; simp) _ rfl 2 rfl).buf (two_ok 0 0 (by omega) (by omega)))
            have gk14 : Grew wk4 (wk4.alloc (.cells #[.int .u8 0, .int .u8 0] 5)) := (Grew.refl _).alloc _
            have HO0 : Hid (([0, 0] : List Int) ≠ [] → Off vR2.ownBlock (.slice (some ⟨wk4.heap.size, 0, none⟩) 2 2)) := Lib.hid (fun _ q hq hk => by have h1 := R2.out.lt q hq; simp only [Value.ownBlock, Option.some.injEq] at hk; omega)
            replace R2 := Lib.hid (R2.out.grew gk14)
            generalize (wk4.alloc (.cells #[.int .u8 0, .int .u8 0] 5)) = wk14 at *
            generalize wk4.heap.size = L0 at *
            refine hK.out _ _ (hHeld.trans gk14) (fun hHeld => ?_)
            clear hK K
            try simp only [List.getElem_toArray, List.getElem_cons_succ, List.getElem_cons_zero, Act.put, List.setIfInBounds_toArray, List.set_cons_zero, List.set_cons_succ]
            refine wpAnyH_ready (rs := [8]) (by kernel_rfl) (by simp) ?_
            refine AllReadyH.cons rfl (fun K hK => ?_) AllReadyH.nil
            go_simp
            refine (refTwo18_c ((ulN f : Nat)) (by omega) HNB.out wk14).mono ?_
            rintro e wk15 ⟨pc, cc, rfl, Rc, Hc, gk15⟩
            replace Hc := Lib.hid Hc
            clear Rc
            replace R2 := Lib.hid (R2.out.grew gk15)
            replace H0 := Lib.hid (H0.out.grew gk15)
            refine hK.out _ _ (hHeld.trans gk15) (fun hHeld => ?_)
            clear hK K
            try simp only [List.getElem_toArray, List.getElem_cons_succ, List.getElem_cons_zero, Act.put, List.setIfInBounds_toArray, List.set_cons_zero, List.set_cons_succ]
            refine wpAnyH_ready (rs := [9]) (by kernel_rfl) (by simp) ?_
            refine AllReadyH.cons rfl (fun K hK => ?_) AllReadyH.nil
            refine step_append_off (by simp [Region.wanted]) (.tmp 37) (.tmp 39) rfl hHeld R2.out (Hc.out) (by rfl) (by rfl) HL2.out ?_
            intro vR3 wk16 R3 gk16 KR3 gb
            clear gb
            replace HO0 : Hid ((([0, 0] : List Int) ≠ [] → Off vR3.ownBlock (.slice (some ⟨L0, 0, none⟩) 2 2)) ∧ Buf wk16 (.slice (some ⟨L0, 0, none⟩) 2 2) [0, 0]) := Lib.hid ⟨(KR3.out _ _ H0.out HO0.out).2, (KR3.out _ _ H0.out HO0.out).1⟩
            replace H0 := Lib.hid HO0.out.2
            replace HO0 := Lib.hid HO0.out.1
            clear KR3
            refine hK.out _ _ (gk16) (fun hHeld => ?_)
            clear hK K
            try simp only [List.getElem_toArray, List.getElem_cons_succ, List.getElem_cons_zero, Act.put, List.setIfInBounds_toArray, List.set_cons_zero, List.set_cons_succ]
            refine wpAnyH_ready (rs := [11]) (by kernel_rfl) (by simp) ?_
            refine AllReadyH.cons rfl (fun K hK => ?_) AllReadyH.nil
            refine step_append_off (by simp [Region.wanted]) (.tmp 40) (.tmp 41) rfl hHeld R3.out (H0.out) (by rfl) (by rfl) HL3.out ?_
            intro vR4 wk17 R4 gk17 KR4 gb
            clear gb
            replace HO0 : Hid ((([0, 0] : List Int) ≠ [] → Off vR4.ownBlock (.slice (some ⟨L0, 0, none⟩) 2 2)) ∧ Buf wk17 (.slice (some ⟨L0, 0, none⟩) 2 2) [0, 0]) := Lib.hid ⟨(KR4.out _ _ H0.out HO0.out).2, (KR4.out _ _ H0.out HO0.out).1⟩
            replace H0 := Lib.hid HO0.out.2
            replace HO0 := Lib.hid HO0.out.1
            clear KR4
            refine hK.out _ _ (gk17) (fun hHeld => ?_)
            clear hK K
            try simp only [List.getElem_toArray, List.getElem_cons_succ, List.getElem_cons_zero, Act.put, List.setIfInBounds_toArray, List.set_cons_zero, List.set_cons_succ]
            refine wpAnyH_ready (rs := [14]) (by kernel_rfl) (by simp) ?_
            refine AllReadyH.cons rfl (fun K hK => ?_) AllReadyH.nil
            refine step_append_off (by simp [Region.wanted]) (.tmp 42) (.tmp 44) rfl hHeld R4.out (H1.out.grew (g0.trans hHeld)) (by rfl) (by rfl) HL4.out ?_
            intro vR5 wk18 R5 gk18 KR5 gb
            clear gb
            replace HO0 : Hid ((([0, 0] : List Int) ≠ [] → Off vR5.ownBlock (.slice (some ⟨L0, 0, none⟩) 2 2)) ∧ Buf wk18 (.slice (some ⟨L0, 0, none⟩) 2 2) [0, 0]) := Lib.hid ⟨(KR5.out _ _ H0.out HO0.out).2, (KR5.out _ _ H0.out HO0.out).1⟩
            replace H0 := Lib.hid HO0.out.2
            replace HO0 := Lib.hid HO0.out.1
            clear KR5
            refine hK.out _ _ (gk18) (fun hHeld => ?_)
            clear hK K
            try simp only [List.getElem_toArray, List.getElem_cons_succ, List.getElem_cons_zero, Act.put, List.setIfInBounds_toArray, List.set_cons_zero, List.set_cons_succ]
            refine wpAnyH_take (i := 15) (v := ?_) rfl (by kernel_rfl) (by kernel_rfl) (by kernel_rfl) (fun _ _ _ h => h) (Or.inl ⟨by rfl, ?_⟩) hHeld ?_
            rotate_left
            · intro wq hSw
              replace hSw : Grew w0 wq := hSw
              go_simp
              try with_reducible rfl
            try simp only [List.getElem_toArray, List.getElem_cons_succ, List.getElem_cons_zero, Act.put, List.setIfInBounds_toArray, List.set_cons_zero, List.set_cons_succ]
            refine wpAnyH_done (by kernel_rfl) ?_ _
            try simp only [List.getElem_toArray, List.getElem_cons_succ, List.getElem_cons_zero, Act.put, List.setIfInBounds_toArray, List.set_cons_zero, List.set_cons_succ]
            go_wp2_with fail
            go_meet
            exact ⟨Lib.hid R5.out, hHeld⟩
        · go_simp
          have H0 : Hid (Buf (wk3.alloc (.cells #[.int .u8 0, .int .u8 0] 5)) (.slice (some ⟨wk3.heap.size, 0, none⟩) 2 2) [0, 0]) := Lib.hid ((Row.lit wk3 wk3.heap.size (Nat.le_refl _) #[.int .u8 0, .int .u8 0] [0, 0] rfl (by unfold maxLen; simp) _ rfl 2 rfl).buf (two_ok 0 0 (by omega) (by omega)))
          have gk19 : Grew wk3 (wk3.alloc (.cells #[.int .u8 0, .int .u8 0] 5)) := (Grew.refl _).alloc _
          have HO0 : Hid (([0, 0] : List Int) ≠ [] → Off (Value.slice pa 2 ca).ownBlock (.slice (some ⟨wk3.heap.size, 0, none⟩) 2 2)) := Lib.hid (fun _ q hq hk => by have h1 := Ra.out.lt q hq; simp only [Value.ownBlock, Option.some.injEq] at hk; omega)
          replace Ra := Lib.hid (Ra.out.grew gk19)
          replace Hb := Lib.hid (Hb.out.grew gk19)
          generalize (wk3.alloc (.cells #[.int .u8 0, .int .u8 0] 5)) = wk19 at *
          generalize wk3.heap.size = L0 at *
          refine hK.out _ _ (hHeld.trans gk19) (fun hHeld => ?_)
          clear hK K
          try simp only [List.getElem_toArray, List.getElem_cons_succ, List.getElem_cons_zero, Act.put, List.setIfInBounds_toArray, List.set_cons_zero, List.set_cons_succ]
          refine wpAnyH_ready (rs := [6]) (by kernel_rfl) (by simp) ?_
          refine AllReadyH.cons rfl (fun K hK => ?_) AllReadyH.nil
          refine step_append_off (by simp [Region.wanted]) (.tmp 33) (.tmp 36) rfl hHeld Ra.out (Hb.out) (by rfl) (by rfl) HL1.out ?_
          intro vR2 wk20 R2 gk20 KR2 gb
          clear gb
          replace HO0 : Hid ((([0, 0] : List Int) ≠ [] → Off vR2.ownBlock (.slice (some ⟨L0, 0, none⟩) 2 2)) ∧ Buf wk20 (.slice (some ⟨L0, 0, none⟩) 2 2) [0, 0]) := Lib.hid ⟨(KR2.out _ _ H0.out HO0.out).2, (KR2.out _ _ H0.out HO0.out).1⟩
          replace H0 := Lib.hid HO0.out.2
          replace HO0 := Lib.hid HO0.out.1
          clear KR2
          refine hK.out _ _ (gk20) (fun hHeld => ?_)
          clear hK K
          try simp only [List.getElem_toArray, List.getElem_cons_succ, List.getElem_cons_zero, Act.put, List.setIfInBounds_toArray, List.set_cons_zero, List.set_cons_succ]
          refine wpAnyH_ready (rs := [8]) (by kernel_rfl) (by simp) ?_
          refine AllReadyH.cons rfl (fun K hK => ?_) AllReadyH.nil
          go_simp
          refine (refTwo18_c ((ulN f : Nat)) (by omega) HNB.out wk20).mono ?_
          rintro e wk21 ⟨pc, cc, rfl, Rc, Hc, gk21⟩
          replace Hc := Lib.hid Hc
          clear Rc
          replace R2 := Lib.hid (R2.out.grew gk21)
          replace H0 := Lib.hid (H0.out.grew gk21)
          refine hK.out _ _ (hHeld.trans gk21) (fun hHeld => ?_)
          clear hK K
          try simp only [List.getElem_toArray, List.getElem_cons_succ, List.getElem_cons_zero, Act.put, List.setIfInBounds_toArray, List.set_cons_zero, List.set_cons_succ]
          refine wpAnyH_ready (rs := [9]) (by kernel_rfl) (by simp) ?_
          refine AllReadyH.cons rfl (fun K hK => ?_) AllReadyH.nil
          refine step_append_off (by simp [Region.wanted]) (.tmp 37) (.tmp 39) rfl hHeld R2.out (Hc.out) (by rfl) (by rfl) HL2.out ?_
          intro vR3 wk22 R3 gk22 KR3 gb
          clear gb
          replace HO0 : Hid ((([0, 0] : List Int) ≠ [] → Off vR3.ownBlock (.slice (some ⟨L0, 0, none⟩) 2 2)) ∧ Buf wk22 (.slice (some ⟨L0, 0, none⟩) 2 2) [0, 0]) := Lib.hid ⟨(KR3.out _ _ H0.out HO0.out).2, (KR3.out _ _ H0.out HO0.out).1⟩
          replace H0 := Lib.hid HO0.out.2
          replace HO0 := Lib.hid HO0.out.1
          clear KR3
          refine hK.out _ _ (gk22) (fun hHeld => ?_)
          clear hK K
          try simp only [List.getElem_toArray, List.getElem_cons_succ, List.getElem_cons_zero, Act.put, List.setIfInBounds_toArray, List.set_cons_zero, List.set_cons_succ]
          refine wpAnyH_ready (rs := [11]) (by kernel_rfl) (by simp) ?_
          refine AllReadyH.cons rfl (fun K hK => ?_) AllReadyH.nil
          refine step_append_off (by simp [Region.wanted]) (.tmp 40) (.tmp 41) rfl hHeld R3.out (H0.out) (by rfl) (by rfl) HL3.out ?_
          intro vR4 wk23 R4 gk23 KR4 gb
          clear gb
          replace HO0 : Hid ((([0, 0] : List Int) ≠ [] → Off vR4.ownBlock (.slice (some ⟨L0, 0, none⟩) 2 2)) ∧ Buf wk23 (.slice (some ⟨L0, 0, none⟩) 2 2) [0, 0]) := Lib.hid ⟨(KR4.out _ _ H0.out HO0.out).2, (KR4.out _ _ H0.out HO0.out).1⟩
          replace H0 := Lib.hid HO0.out.2
          replace HO0 := Lib.hid HO0.out.1
          clear KR4
          refine hK.out _ _ (gk23) (fun hHeld => ?_)
          clear hK K
          try simp only [List.getElem_toArray, List.getElem_cons_succ, List.getElem_cons_zero, Act.put, List.setIfInBounds_toArray, List.set_cons_zero, List.set_cons_succ]
          refine wpAnyH_ready (rs := [14]) (by kernel_rfl) (by simp) ?_
          refine AllReadyH.cons rfl (fun K hK => ?_) AllReadyH.nil
          refine step_append_off (by simp [Region.wanted]) (.tmp 42) (.tmp 44) rfl hHeld R4.out (H1.out.grew (g0.trans hHeld)) (by rfl) (by rfl) HL4.out ?_
          intro vR5 wk24 R5 gk24 KR5 gb
          clear gb
          replace HO0 : Hid ((([0, 0] : List Int) ≠ [] → Off vR5.ownBlock (.slice (some ⟨L0, 0, none⟩) 2 2)) ∧ Buf wk24 (.slice (some ⟨L0, 0, none⟩) 2 2) [0, 0]) := Lib.hid ⟨(KR5.out _ _ H0.out HO0.out).2, (KR5.out _ _ H0.out HO0.out).1⟩
          replace H0 := Lib.hid HO0.out.2
          replace HO0 := Lib.hid HO0.out.1
          clear KR5
          refine hK.out _ _ (gk24) (fun hHeld => ?_)
          clear hK K
          try simp only [List.getElem_toArray, List.getElem_cons_succ, List.getElem_cons_zero, Act.put, List.setIfInBounds_toArray, List.set_cons_zero, List.set_cons_succ]
          refine wpAnyH_take (i := 15) (v := ?_) rfl (by kernel_rfl) (by kernel_rfl) (by kernel_rfl) (fun _ _ _ h => h) (Or.inl ⟨by rfl, ?_⟩) hHeld ?_
          rotate_left
          · intro wq hSw
            replace hSw : Grew w0 wq := hSw
            go_simp
            try with_reducible rfl
          try simp only [List.getElem_toArray, List.getElem_cons_succ, List.getElem_cons_zero, Act.put, List.setIfInBounds_toArray, List.set_cons_zero, List.set_cons_succ]
          refine wpAnyH_done (by kernel_rfl) ?_ _
          try simp only [List.getElem_toArray, List.getElem_cons_succ, List.getElem_cons_zero, Act.put, List.setIfInBounds_toArray, List.set_cons_zero, List.set_cons_succ]
          go_wp2_with fail
          go_meet
          exact ⟨Lib.hid R5.out, hHeld⟩
      · go_simp
        have H0 : Hid (Buf (wk2.alloc (.cells #[.int .u8 0, .int .u8 0] 5)) (.slice (some ⟨wk2.heap.size, 0, none⟩) 2 2) [0, 0]) := Lib.hid ((Row.lit wk2 wk2.heap.size (Nat.le_refl _) #[.int .u8 0, .int .u8 0] [0, 0] rfl (by unfold maxLen; simp) _ rfl 2 rfl).buf (two_ok 0 0 (by omega) (by omega)))
        have gk25 : Grew wk2 (wk2.alloc (.cells #[.int .u8 0, .int .u8 0] 5)) := (Grew.refl _).alloc _
        have HO0 : Hid (([0, 0] : List Int) ≠ [] → Off (Value.slice pa 2 ca).ownBlock (.slice (some ⟨wk2.heap.size, 0, none⟩) 2 2)) := Lib.hid (fun _ q hq hk => by have h1 := Ra.out.lt q hq; simp only [Value.ownBlock, Option.some.injEq] at hk; omega)
        replace Ra := Lib.hid (Ra.out.grew gk25)
        generalize (wk2.alloc (.cells #[.int .u8 0, .int .u8 0] 5)) = wk25 at *
        generalize wk2.heap.size = L0 at *
        refine hK.out _ _ (hHeld.trans gk25) (fun hHeld => ?_)
        clear hK K
        try simp only [List.getElem_toArray, List.getElem_cons_succ, List.getElem_cons_zero, Act.put, List.setIfInBounds_toArray, List.set_cons_zero, List.set_cons_succ]
        refine wpAnyH_ready (rs := [5]) (by kernel_rfl) (by simp) ?_
        refine AllReadyH.cons rfl (fun K hK => ?_) AllReadyH.nil
        go_simp
        refine (refTwo18_c (f.d) hd0 hd1 wk25).mono ?_
        rintro e wk26 ⟨pb, cb, rfl, Rb, Hb, gk26⟩
        replace Hb := Lib.hid Hb
        clear Rb
        replace Ra := Lib.hid (Ra.out.grew gk26)
        replace H0 := Lib.hid (H0.out.grew gk26)
        refine hK.out _ _ (hHeld.trans gk26) (fun hHeld => ?_)
        clear hK K
        try simp only [List.getElem_toArray, List.getElem_cons_succ, List.getElem_cons_zero, Act.put, List.setIfInBounds_toArray, List.set_cons_zero, List.set_cons_succ]
        refine wpAnyH_ready (rs := [6]) (by kernel_rfl) (by simp) ?_
        refine AllReadyH.cons rfl (fun K hK => ?_) AllReadyH.nil
        refine step_append_off (by simp [Region.wanted]) (.tmp 33) (.tmp 36) rfl hHeld Ra.out (Hb.out) (by rfl) (by rfl) HL1.out ?_
        intro vR2 wk27 R2 gk27 KR2 gb
        clear gb
        replace HO0 : Hid ((([0, 0] : List Int) ≠ [] → Off vR2.ownBlock (.slice (some ⟨L0, 0, none⟩) 2 2)) ∧ Buf wk27 (.slice (some ⟨L0, 0, none⟩) 2 2) [0, 0]) := Lib.hid ⟨(KR2.out _ _ H0.out HO0.out).2, (KR2.out _ _ H0.out HO0.out).1⟩
        replace H0 := Lib.hid HO0.out.2
        replace HO0 := Lib.hid HO0.out.1
        clear KR2
        refine hK.out _ _ (gk27) (fun hHeld => ?_)
        clear hK K
        try simp only [List.getElem_toArray, List.getElem_cons_succ, List.getElem_cons_zero, Act.put, List.setIfInBounds_toArray, List.set_cons_zero, List.set_cons_succ]
        refine wpAnyH_ready (rs := [8]) (by kernel_rfl) (by simp) ?_
        refine AllReadyH.cons rfl (fun K hK => ?_) AllReadyH.nil
        go_simp
        refine (refTwo18_c ((ulN f : Nat)) (by omega) HNB.out wk27).mono ?_
        rintro e wk28 ⟨pc, cc, rfl, Rc, Hc, gk28⟩
        replace Hc := Lib.hid Hc
        clear Rc
        replace R2 := Lib.hid (R2.out.grew gk28)
        replace H0 := Lib.hid (H0.out.grew gk28)
        refine hK.out _ _ (hHeld.trans gk28) (fun hHeld => ?_)
        clear hK K
        try simp only [List.getElem_toArray, List.getElem_cons_succ, List.getElem_cons_zero, Act.put, List.setIfInBounds_toArray, List.set_cons_zero, List.set_cons_succ]
        refine wpAnyH_ready (rs := [9]) (by kernel_rfl) (by simp) ?_
        refine AllReadyH.cons rfl (fun K hK => ?_) AllReadyH.nil
        refine step_append_off (by simp [Region.wanted]) (.tmp 37) (.tmp 39) rfl hHeld R2.out (Hc.out) (by rfl) (by rfl) HL2.out ?_
        intro vR3 wk29 R3 gk29 KR3 gb
        clear gb
        replace HO0 : Hid ((([0, 0] : List Int) ≠ [] → Off vR3.ownBlock (.slice (some ⟨L0, 0, none⟩) 2 2)) ∧ Buf wk29 (.slice (some ⟨L0, 0, none⟩) 2 2) [0, 0]) := Lib.hid ⟨(KR3.out _ _ H0.out HO0.out).2, (KR3.out _ _ H0.out HO0.out).1⟩
        replace H0 := Lib.hid HO0.out.2
        replace HO0 := Lib.hid HO0.out.1
        clear KR3
        refine hK.out _ _ (gk29) (fun hHeld => ?_)
        clear hK K
        try simp only [List.getElem_toArray, List.getElem_cons_succ, List.getElem_cons_zero, Act.put, List.setIfInBounds_toArray, List.set_cons_zero, List.set_cons_succ]
        refine wpAnyH_ready (rs := [11]) (by kernel_rfl) (by simp) ?_
        refine AllReadyH.cons rfl (fun K hK => ?_) AllReadyH.nil
        refine step_append_off (by simp [Region.wanted]) (.tmp 40) (.tmp 41) rfl hHeld R3.out (H0.out) (by rfl) (by rfl) HL3.out ?_
        intro vR4 wk30 R4 gk30 KR4 gb
        clear gb
        replace HO0 : Hid ((([0, 0] : List Int) ≠ [] → Off vR4.ownBlock (.slice (some ⟨L0, 0, none⟩) 2 2)) ∧ Buf wk30 (.slice (some ⟨L0, 0, none⟩) 2 2) [0, 0]) := Lib.hid ⟨(KR4.out _ _ H0.out HO0.out).2, (KR4.out _ _ H0.out HO0.out).1⟩
        replace H0 := Lib.hid HO0.out.2
        replace HO0 := Lib.hid HO0.out.1
        clear KR4
        refine hK.out _ _ (gk30) (fun hHeld => ?_)
        clear hK K
        try simp only [List.getElem_toArray, List.getElem_cons_succ, List.getElem_cons_zero, Act.put, List.setIfInBounds_toArray, List.set_cons_zero, List.set_cons_succ]
        refine wpAnyH_ready (rs := [14]) (by kernel_rfl) (by simp) ?_
        refine AllReadyH.cons rfl (fun K hK => ?_) AllReadyH.nil
        refine step_append_off (by simp [Region.wanted]) (.tmp 42) (.tmp 44) rfl hHeld R4.out (H1.out.grew (g0.trans hHeld)) (by rfl) (by rfl) HL4.out ?_
        intro vR5 wk31 R5 gk31 KR5 gb
        clear gb
        replace HO0 : Hid ((([0, 0] : List Int) ≠ [] → Off vR5.ownBlock (.slice (some ⟨L0, 0, none⟩) 2 2)) ∧ Buf wk31 (.slice (some ⟨L0, 0, none⟩) 2 2) [0, 0]) := Lib.hid ⟨(KR5.out _ _ H0.out HO0.out).2, (KR5.out _ _ H0.out HO0.out).1⟩
        replace H0 := Lib.hid HO0.out.2
        replace HO0 := Lib.hid HO0.out.1
        clear KR5
        refine hK.out _ _ (gk31) (fun hHeld => ?_)
        clear hK K
        try simp only [List.getElem_toArray, List.getElem_cons_succ, List.getElem_cons_zero, Act.put, List.setIfInBounds_toArray, List.set_cons_zero, List.set_cons_succ]
        refine wpAnyH_take (i := 15) (v := ?_) rfl (by kernel_rfl) (by kernel_rfl) (by kernel_rfl) (fun _ _ _ h => h) (Or.inl ⟨by rfl, ?_⟩) hHeld ?_
        rotate_left
        · intro wq hSw
          replace hSw : Grew w0 wq := hSw
          go_simp
          try with_reducible rfl
        try simp only [List.getElem_toArray, List.getElem_cons_succ, List.getElem_cons_zero, Act.put, List.setIfInBounds_toArray, List.set_cons_zero, List.set_cons_succ]
        refine wpAnyH_done (by kernel_rfl) ?_ _
        try simp only [List.getElem_toArray, List.getElem_cons_succ, List.getElem_cons_zero, Act.put, List.setIfInBounds_toArray, List.set_cons_zero, List.set_cons_succ]
        go_wp2_with fail
        go_meet
        exact ⟨Lib.hid R5.out, hHeld⟩
    · go_simp
      have H0 : Hid (Buf (wq1.alloc (.cells #[.int .u8 0, .int .u8 0] 5)) (.slice (some ⟨wq1.heap.size, 0, none⟩) 2 2) [0, 0]) := Lib.hid ((Row.lit wq1 wq1.heap.size (Nat.le_refl _) #[.int .u8 0, .int .u8 0] [0, 0] rfl (by unfold maxLen; simp) _ rfl 2 rfl).buf (two_ok 0 0 (by omega) (by omega)))
      have gk32 : Grew wq1 (wq1.alloc (.cells #[.int .u8 0, .int .u8 0] 5)) := (Grew.refl _).alloc _
      generalize (wq1.alloc (.cells #[.int .u8 0, .int .u8 0] 5)) = wk32 at *
      generalize wq1.heap.size = L0 at *
      refine hK.out _ _ (hHeld.trans gk32) (fun hHeld => ?_)
      clear hK K
      try simp only [List.getElem_toArray, List.getElem_cons_succ, List.getElem_cons_zero, Act.put, List.setIfInBounds_toArray, List.set_cons_zero, List.set_cons_succ]
      refine wpAnyH_ready (rs := [2]) (by kernel_rfl) (by simp) ?_
      refine AllReadyH.cons rfl (fun K hK => ?_) AllReadyH.nil
      go_simp
      refine (refTwo18_c (f.s) hs0 hs1 wk32).mono ?_
      rintro e wk33 ⟨pa, ca, rfl, Ra, Ha, gk33⟩
      have HO0 : Hid (([0, 0] : List Int) ≠ [] → Off (Value.slice pa 2 ca).ownBlock (.slice (some ⟨L0, 0, none⟩) 2 2)) := Lib.hid (fun hx => Ra.off (H0.out.blockLt hx))
      replace Ra := Lib.hid (Ra.low hHeld.size)
      clear Ha
      replace H0 := Lib.hid (H0.out.grew gk33)
      refine hK.out _ _ (hHeld.trans gk33) (fun hHeld => ?_)
      clear hK K
      try simp only [List.getElem_toArray, List.getElem_cons_succ, List.getElem_cons_zero, Act.put, List.setIfInBounds_toArray, List.set_cons_zero, List.set_cons_succ]
      refine wpAnyH_ready (rs := [5]) (by kernel_rfl) (by simp) ?_
      refine AllReadyH.cons rfl (fun K hK => ?_) AllReadyH.nil
      go_simp
      refine (refTwo18_c (f.d) hd0 hd1 wk33).mono ?_
      rintro e wk34 ⟨pb, cb, rfl, Rb, Hb, gk34⟩
      replace Hb := Lib.hid Hb
      clear Rb
      replace H0 := Lib.hid (H0.out.grew gk34)
      replace Ra := Lib.hid (Ra.out.grew gk34)
      refine hK.out _ _ (hHeld.trans gk34) (fun hHeld => ?_)
      clear hK K
      try simp only [List.getElem_toArray, List.getElem_cons_succ, List.getElem_cons_zero, Act.put, List.setIfInBounds_toArray, List.set_cons_zero, List.set_cons_succ]
      refine wpAnyH_ready (rs := [6]) (by kernel_rfl) (by simp) ?_
      refine AllReadyH.cons rfl (fun K hK => ?_) AllReadyH.nil
      refine step_append_off (by simp [Region.wanted]) (.tmp 33) (.tmp 36) rfl hHeld Ra.out (Hb.out) (by rfl) (by rfl) HL1.out ?_
      intro vR2 wk35 R2 gk35 KR2 gb
      clear gb
      replace HO0 : Hid ((([0, 0] : List Int) ≠ [] → Off vR2.ownBlock (.slice (some ⟨L0, 0, none⟩) 2 2)) ∧ Buf wk35 (.slice (some ⟨L0, 0, none⟩) 2 2) [0, 0]) := Lib.hid ⟨(KR2.out _ _ H0.out HO0.out).2, (KR2.out _ _ H0.out HO0.out).1⟩
      replace H0 := Lib.hid HO0.out.2
      replace HO0 := Lib.hid HO0.out.1
      clear KR2
      refine hK.out _ _ (gk35) (fun hHeld => ?_)
      clear hK K
      try simp only [List.getElem_toArray, List.getElem_cons_succ, List.getElem_cons_zero, Act.put, List.setIfInBounds_toArray, List.set_cons_zero, List.set_cons_succ]
      refine wpAnyH_ready (rs := [8]) (by kernel_rfl) (by simp) ?_
      refine AllReadyH.cons rfl (fun K hK => ?_) AllReadyH.nil
      go_simp
      refine (refTwo18_c ((ulN f : Nat)) (by omega) HNB.out wk35).mono ?_
      rintro e wk36 ⟨pc, cc, rfl, Rc, Hc, gk36⟩
      replace Hc := Lib.hid Hc
      clear Rc
      replace R2 := Lib.hid (R2.out.grew gk36)
      replace H0 := Lib.hid (H0.out.grew gk36)
      refine hK.out _ _ (hHeld.trans gk36) (fun hHeld => ?_)
      clear hK K
      try simp only [List.getElem_toArray, List.getElem_cons_succ, List.getElem_cons_zero, Act.put, List.setIfInBounds_toArray, List.set_cons_zero, List.set_cons_succ]
      refine wpAnyH_ready (rs := [9]) (by kernel_rfl) (by simp) ?_
      refine AllReadyH.cons rfl (fun K hK => ?_) AllReadyH.nil
      refine step_append_off (by simp [Region.wanted]) (.tmp 37) (.tmp 39) rfl hHeld R2.out (Hc.out) (by rfl) (by rfl) HL2.out ?_
      intro vR3 wk37 R3 gk37 KR3 gb
      clear gb
      replace HO0 : Hid ((([0, 0] : List Int) ≠ [] → Off vR3.ownBlock (.slice (some ⟨L0, 0, none⟩) 2 2)) ∧ Buf wk37 (.slice (some ⟨L0, 0, none⟩) 2 2) [0, 0]) := Lib.hid ⟨(KR3.out _ _ H0.out HO0.out).2, (KR3.out _ _ H0.out HO0.out).1⟩
      replace H0 := Lib.hid HO0.out.2
      replace HO0 := Lib.hid HO0.out.1
      clear KR3
      refine hK.out _ _ (gk37) (fun hHeld => ?_)
      clear hK K
      try simp only [List.getElem_toArray, List.getElem_cons_succ, List.getElem_cons_zero, Act.put, List.setIfInBounds_toArray, List.set_cons_zero, List.set_cons_succ]
      refine wpAnyH_ready (rs := [11]) (by kernel_rfl) (by simp) ?_
      refine AllReadyH.cons rfl (fun K hK => ?_) AllReadyH.nil
      refine step_append_off (by simp [Region.wanted]) (.tmp 40) (.tmp 41) rfl hHeld R3.out (H0.out) (by rfl) (by rfl) HL3.out ?_
      intro vR4 wk38 R4 gk38 KR4 gb
      clear gb
      replace HO0 : Hid ((([0, 0] : List Int) ≠ [] → Off vR4.ownBlock (.slice (some ⟨L0, 0, none⟩) 2 2)) ∧ Buf wk38 (.slice (some ⟨L0, 0, none⟩) 2 2) [0, 0]) := Lib.hid ⟨(KR4.out _ _ H0.out HO0.out).2, (KR4.out _ _ H0.out HO0.out).1⟩
      replace H0 := Lib.hid HO0.out.2
      replace HO0 := Lib.hid HO0.out.1
      clear KR4
      refine hK.out _ _ (gk38) (fun hHeld => ?_)
      clear hK K
      try simp only [List.getElem_toArray, List.getElem_cons_succ, List.getElem_cons_zero, Act.put, List.setIfInBounds_toArray, List.set_cons_zero, List.set_cons_succ]
      refine wpAnyH_ready (rs := [14]) (by kernel_rfl) (by simp) ?_
      refine AllReadyH.cons rfl (fun K hK => ?_) AllReadyH.nil
      refine step_append_off (by simp [Region.wanted]) (.tmp 42) (.tmp 44) rfl hHeld R4.out (H1.out.grew (g0.trans hHeld)) (by rfl) (by rfl) HL4.out ?_
      intro vR5 wk39 R5 gk39 KR5 gb
      clear gb
      replace HO0 : Hid ((([0, 0] : List Int) ≠ [] → Off vR5.ownBlock (.slice (some ⟨L0, 0, none⟩) 2 2)) ∧ Buf wk39 (.slice (some ⟨L0, 0, none⟩) 2 2) [0, 0]) := Lib.hid ⟨(KR5.out _ _ H0.out HO0.out).2, (KR5.out _ _ H0.out HO0.out).1⟩
      replace H0 := Lib.hid HO0.out.2
      replace HO0 := Lib.hid HO0.out.1
      clear KR5
      refine hK.out _ _ (gk39) (fun hHeld => ?_)
      clear hK K
      try simp only [List.getElem_toArray, List.getElem_cons_succ, List.getElem_cons_zero, Act.put, List.setIfInBounds_toArray, List.set_cons_zero, List.set_cons_succ]
      refine wpAnyH_take (i := 15) (v := ?_) rfl (by kernel_rfl) (by kernel_rfl) (by kernel_rfl) (fun _ _ _ h => h) (Or.inl ⟨by rfl, ?_⟩) hHeld ?_
      rotate_left
      · intro wq hSw
        replace hSw : Grew w0 wq := hSw
        go_simp
        try with_reducible rfl
      try simp only [List.getElem_toArray, List.getElem_cons_succ, List.getElem_cons_zero, Act.put, List.setIfInBounds_toArray, List.set_cons_zero, List.set_cons_succ]
      refine wpAnyH_done (by kernel_rfl) ?_ _
      try simp only [List.getElem_toArray, List.getElem_cons_succ, List.getElem_cons_zero, Act.put, List.setIfInBounds_toArray, List.set_cons_zero, List.set_cons_succ]
      go_wp2_with fail
      go_meet
      exact ⟨Lib.hid R5.out, hHeld⟩
  case rest =>
    obtain ⟨HR, hg⟩ := hcut
    have hul : (8 : Int) + (f.x.length : Int) = (ulN f : Nat) := by unfold ulN; omega
    have HBR := Lib.hid (HR.out.buf (rawU_ok HXO.out))
    obtain ⟨g, c, rfl, hgl⟩ : ∃ g c, u9 = .slice (some ⟨g, 0, none⟩) (ulN f) c ∧ g < wc.heap.size := by
      rcases HR.out.2 with ⟨_, h2⟩ | ⟨g, cap, cur, h1, _, h3, _⟩
      · rw [rawU_len] at h2; have := HUL.out; omega
      · exact ⟨g, cap, by rw [h1, rawU_len], lt_of_block h3⟩
    go_wp2_with fail
    try rw [hul]
    clear hul
    refine (refPseudo_c src dst 17 (ulN f : Nat) hs hd (by omega) (by have := HUL.out; omega) wc).mono ?_
    rintro e w1 ⟨u1, rfl, r1, b1, g1⟩
    have HP := Lib.hid r1
    have HB1 := Lib.hid (HBR.out.grew g1)
    have HR1 := Lib.hid (HR.out.grew g1)
    have hpo : ∀ k, u1.ownBlock = some k → wc.heap.size ≤ k := fun k hk => r1.ge k hk
    clear r1 b1
    go_upto_region 6 with (first
      | (refine wpList_append_b (W := wc) rfl (.tmp 49) (.tmp 50) rfl g1 HP.out HB1.out (by rfl) (by rfl) (by rw [pseudoV_len, rawU_len]; have := HUL.out; omega) ?_; intro v2 w2 R2 g2 x2; have HR2 : Hid (Row w2 w0.heap.size (.slice (some ⟨g, 0, none⟩) (ulN f) c) (rawU f)) := Lib.hid (World.ownsRow.kept HR1.out x2 (Or.inr (fun e => by have := hpo g e.symm; omega))); clear x2)
      | (go_at_call 20; refine (refSum_c _ (R2.out.buf ((psU_ok src dst (ulN f)).append (rawU_ok HXO.out))) (by rw [List.length_append, pseudoV_len, rawU_len]; have := HUL.out; omega)).mono ?_; rintro e w3 ⟨rfl, g3⟩))
    have hr3 : Row w3 w0.heap.size (.slice (some ⟨g, 0, none⟩) (ulN f) c) (rawU f) := HR2.out.grew g3
    have G3 := hg.trans (g2.trans g3)
    have hge : w0.heap.size ≤ g := hr3.size.2.1
    have y6 := hr3.cellAt 6 (by rw [rawU_len]; have := HUL.out; omega)
    have y7 := hr3.cellAt 7 (by rw [rawU_len]; have := HUL.out; omega)
    have f6 := hr3.freeAt 6
    have f7 := hr3.freeAt 7
    have k6 : (6 : Int) < (ulN f : Nat) := by have := HUL.out; omega
    have k7 : (7 : Int) < (ulN f : Nat) := by have := HUL.out; omega
    have hc := Lib.hid (sumV_lt (psU src dst (ulN f) ++ rawU f))
    have HCK : Hid (ckU f src dst = if sumV (pseudoV src dst 17 ((ulN f : Nat) : Int) ++ rawU f) = 0 then 65535 else sumV (pseudoV src dst 17 ((ulN f : Nat) : Int) ++ rawU f)) := Lib.hid rfl
    replace hc : Hid (0 ≤ sumV (pseudoV src dst 17 ((ulN f : Nat) : Int) ++ rawU f) ∧ sumV (pseudoV src dst 17 ((ulN f : Nat) : Int) ++ rawU f) ≤ 65535) := hc
    generalize sumV (pseudoV src dst 17 ((ulN f : Nat) : Int) ++ rawU f) = S at *
    clear HP HB1 HR1 hpo R2 HR2 HBR HR g1 g2 g3 hg
    by_cases h0 : S = 0
    · subst h0
      have HPU : Hid (putTwo (rawU f) 6 255 255 = putU f src dst) := Lib.hid (by unfold putU; rw [HCK.out, if_pos rfl]; rfl)
      go_upto_region 9 with fail
      have hr4 := (hr3.setCell 6 (255)).setCell 7 (255)
      have g4 := (G3.setCell (b := g) (o := 6) hge (.int .u8 (255))).setCell (b := g) (o := 7) hge (.int .u8 (255))
      rw [set_two _ 6 _ _ (by rw [rawU_len]; have := HUL.out; omega)] at hr4
      have HR4 : Hid (Buf ((w3.setCell ⟨g, 6, none⟩ (.int .u8 (255))).setCell ⟨g, 7, none⟩ (.int .u8 (255))) (.slice (some ⟨g, 0, none⟩) (ulN f) c) (putU f src dst)) := Lib.hid (by rw [HPU.out] at hr4; exact hr4.buf (putU_ok HXO.out src dst))
      clear hr4 y6 f6 y7 f7 hr3
      go_wp2_with fail
      go_ret2
      exact ⟨_, rfl, HR4.out, g0.trans g4⟩
    · have hsb := hc.out
      obtain ⟨M, rfl⟩ : ∃ M : Nat, S = (M : Int) := ⟨S.toNat, by omega⟩
      have HPU : Hid (putTwo (rawU f) 6 ((M : Int) / 256) ((M : Int) % 256) = putU f src dst) := Lib.hid (by unfold putU; rw [HCK.out, if_neg h0])
      have ne0 : ((M : Int) == 0) = false := by simpa using h0
      have ew1 : IntKind.i64.wrap ((M : Int) / 256) = (M : Int) / 256 := IntWalk.i64_in _ (by omega)
      have ew2 : IntKind.u8.wrap ((M : Int) / 256) = (M : Int) / 256 := by rw [wrap_u8]; omega
      have ew3 : IntKind.u8.wrap ((M : Int) % 256) = (M : Int) % 256 := by rw [wrap_u8]; omega
      clear hsb h0
      go_upto_region 9 with fail
      have hr4 := (hr3.setCell 6 ((M : Int) / 256)).setCell 7 ((M : Int) % 256)
      have g4 := (G3.setCell (b := g) (o := 6) hge (.int .u8 ((M : Int) / 256))).setCell (b := g) (o := 7) hge (.int .u8 ((M : Int) % 256))
      rw [set_two _ 6 _ _ (by rw [rawU_len]; have := HUL.out; omega)] at hr4
      have HR4 : Hid (Buf ((w3.setCell ⟨g, 6, none⟩ (.int .u8 ((M : Int) / 256))).setCell ⟨g, 7, none⟩ (.int .u8 ((M : Int) % 256))) (.slice (some ⟨g, 0, none⟩) (ulN f) c) (putU f src dst)) := Lib.hid (by rw [HPU.out] at hr4; exact hr4.buf (putU_ok HXO.out src dst))
      clear hr4 y6 f6 y7 f7 hr3
      go_wp2_with fail
      go_ret2
      exact ⟨_, rfl, HR4.out, g0.trans g4⟩
theorem refPut18_c {v : Value} {f : UD} (src dst : Int) (hs : 0 ≤ src ∧ src < 4294967296) (hd : 0 ≤ dst ∧ dst < 4294967296) {w : World} (hv : Ud w v f) :
    Calls Tryd.prog 8 #[v, .int .u32 src, .int .u32 dst] w fun e w' => ∃ u, e = .returned (.tuple #[u, .int .i64 (putUE f)]) ∧ Buf w' u (putUB f src dst) ∧ Grew w w' := by
  obtain ⟨p1, k1, rfl, b1⟩ := hv.shape
  cases q0 : portV f.s
  · rw [show putUE f = 2 by unfold putUE okU; rw [q0]; rfl, show putUB f src dst = [] by unfold putUB okU; rw [q0]; rfl]
    exact (refPutU_0 src dst q0 w).mono fun _ _ ⟨h1, h2⟩ => ⟨_, h1, Buf.nil _, h2⟩
  · cases q1 : portV f.d
    · rw [show putUE f = 2 by unfold putUE okU; rw [q0, q1]; rfl, show putUB f src dst = [] by unfold putUB okU; rw [q0, q1]; rfl]
      exact (refPutU_1 src dst q0 q1 w).mono fun _ _ ⟨h1, h2⟩ => ⟨_, h1, Buf.nil _, h2⟩
    · by_cases q2 : (65507 : Int) < (f.x.length : Nat)
      · have hn : okU f = false := by unfold okU; rw [q0, q1, decide_eq_false (by omega)]; rfl
        rw [show putUE f = 2 by unfold putUE; rw [hn]; rfl, show putUB f src dst = [] by unfold putUB; rw [hn]; rfl]
        exact (refPutU_2 src dst q0 q1 q2 w).mono fun _ _ ⟨h1, h2⟩ => ⟨_, h1, Buf.nil _, h2⟩
      · have hn : okU f = true := by unfold okU; rw [q0, q1, decide_eq_true (by omega)]; rfl
        rw [show putUE f = 0 by unfold putUE; rw [hn]; rfl, show putUB f src dst = putU f src dst by unfold putUB; rw [hn]; rfl]
        exact refPutU_yes src dst hs hd hn b1
end Go.Proofs.YtcaafinjphionaaDoor
