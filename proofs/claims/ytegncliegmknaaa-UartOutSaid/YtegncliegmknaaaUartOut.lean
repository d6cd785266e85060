/-
  The statement that what is stored goes out in order. For every line and bytes. Conditions: none.
-/
import Derived.Test.YtegncliegmknaaaRows
import Derived.Test.YtegncliegmknaaaUaG
import Derived.Test.YtegncliegmknaaaLaw
import Derived.Deep.QuietTactic
import Derived.BigQuiet
import Derived.Deep.DeepCutAuto
import Derived.Deep.RegionHeld3
set_option linter.unusedVariables false
set_option linter.unusedSimpArgs false
namespace Go.Proofs.Ytegncliegmknaaa.uartOut
open Go.ChangeShapes Go.WideShapes Go.ChangeAt Go.RowKit

set_option maxHeartbeats 1000000 in
theorem walk_far (s : US) {a1 : Option Addr} {a2 : Nat} {a3 : Option Addr} {a4 : Nat} (m : Nat) (av : Option Addr) (cv : Nat) (W : World) (b1 b2 b3 : Bool)
    (h1 : decide ((300 : Int) < (m : Nat)) = b1) (h2 : decide ((3000 : Int) < (s.o.length : Nat)) = b2) (h3 : decide ((3000 : Int) < (s.i.length : Nat)) = b3) (hb : (b1 || b2 || b3) = true) :
    Calls Try.prog 5 #[uaV s a1 a2 a3 a4, .slice av m cv] W fun e w' => e = .returned (.bool true) ∧ Below W.heap.size W w' := by
  cases b1 <;> cases b2 <;> cases b3
  case false.false.false => cases hb
  all_goals
    clear hb
    go_enter Try.func5, Try.ntmps5
    go_upto_region 1 with fail
    have hA : Blk (W.alloc (.cells #[.slice a1 s.i.length a2, .slice a3 s.o.length a4, .int .i64 s.ie, .int .i64 s.lost] 26)) W.heap.size #[.slice a1 s.i.length a2, .slice a3 s.o.length a4, .int .i64 s.ie, .int .i64 s.lost] 26 := Blk.new _ _ _ _ rfl
    have g0 : Grew W (W.alloc (.cells #[.slice a1 s.i.length a2, .slice a3 s.o.length a4, .int .i64 s.ie, .int .i64 s.lost] 26)) := (Grew.refl W).alloc _
    generalize (W.alloc (.cells #[.slice a1 s.i.length a2, .slice a3 s.o.length a4, .int .i64 s.ie, .int .i64 s.lost] 26)) = w0 at *
    generalize W.heap.size = A at *
    have y0 := hA.cell 0
    have y1 := hA.cell 1
    go_wp2_with fail
    refine (heads_c g0).mono ?_
    rintro e w1 ⟨rfl, g1⟩
    go_wp2_with fail
    go_ret
    exact ⟨rfl, g1⟩

/-- append(s, x...) at a step of a region, the slots as a variable. -/
theorem step_append_t {ops : Array Oper} {T : Array Value} {o : Oper} {a : Act} {w W : World} {K : Act → World → Prop} {Q : Exit → Act → World → Prop} {E : Prop} (hgd : o.guard = none) (s x : Operand)
    (ho : o.op = .call { callee := .builtin .append, args := #[s, x], argTypes := #[24, 24] }) (hgr : Grew W w)
    {v u : Value} {xs ys : List Int} (hown : Row w W.heap.size v xs) (hu : Buf w u ys) (hs : a.eval s = v) (hx : a.eval x = u) (hlen : xs.length + ys.length ≤ 140737488355328)
    (h : ∀ v' w', Hid (Row w' W.heap.size v' (xs ++ ys)) → Grew W w' → K (a.put o.dst v') w') : if Region.wanted o (yielded ops T) = true then Oper.wp Try.prog o a w K Q else E := by
  have hw : Region.wanted o (yielded ops T) = true := by simp [Region.wanted, hgd]
  rw [if_pos hw]
  exact wp_append_b s x ho hgr hown hu hs hx hlen fun v' w' h1 h2 _ => h v' w' h1 h2

set_option maxRecDepth 100000 in
set_option maxHeartbeats 4000000 in
theorem walk_near (s : US) {a1 : Option Addr} {a2 : Nat} {a3 : Option Addr} {a4 : Nat} (m : Nat) (av : Option Addr) (cv : Nat) (xs : List Int) (hm : xs.length = m) (sK : Nat → US) (W : World) (hP : Ua W (uaV s a1 a2 a3 a4) s) (hV : Buf W (.slice av m cv) xs)
    (h1 : ¬ ((300 : Int) < (m : Nat))) (h2 : ¬ ((3000 : Int) < (s.o.length : Nat))) (h3 : ¬ ((3000 : Int) < (s.i.length : Nat)))
    (h0 : sK 0 = s) (hi : (sK m).i = s.i) (ho : (sK m).o = s.o ++ xs)
    (rS : ∀ k, k < m → ∀ w v, Ua w v (sK k) → AnsR 10 #[v, .int .u64 0, .int .i64 1, .int .u64 (xs.getD k 0)] (fun v' => .tuple #[v', .bool true]) (sK (k + 1)) w) :
    Calls Try.prog 5 #[uaV s a1 a2 a3 a4, .slice av m cv] W fun e w' => e = .returned (.bool true) ∧ Below W.heap.size W w' := by
  have RS := Lib.hid rS
  have HP := Lib.hid hP
  have HV := Lib.hid hV
  have HM := Lib.hid hm
  have HI := Lib.hid hi
  have HO := Lib.hid ho
  have H0 := Lib.hid h0
  have hl1 : Hid (s.o.length + xs.length ≤ 140737488355328) := Lib.hid (by rw [hm]; omega)
  clear rS hP hV hm hi ho h0
  go_enter Try.func5, Try.ntmps5
  go_upto_region 1 with fail
  have hA : Blk (W.alloc (.cells #[.slice a1 s.i.length a2, .slice a3 s.o.length a4, .int .i64 s.ie, .int .i64 s.lost] 26)) W.heap.size #[.slice a1 s.i.length a2, .slice a3 s.o.length a4, .int .i64 s.ie, .int .i64 s.lost] 26 := Blk.new _ _ _ _ rfl
  have g0 : Grew W (W.alloc (.cells #[.slice a1 s.i.length a2, .slice a3 s.o.length a4, .int .i64 s.ie, .int .i64 s.lost] 26)) := (Grew.refl W).alloc _
  generalize (W.alloc (.cells #[.slice a1 s.i.length a2, .slice a3 s.o.length a4, .int .i64 s.ie, .int .i64 s.lost] 26)) = w0 at *
  generalize hAe : W.heap.size = A at *
  have y0 := hA.cell 0
  have y1 := hA.cell 1
  have y2 := hA.cell 2
  have y3 := hA.cell 3
  go_upto_region 3 with fail
  go_upto_region 4 with fail
  clear y0 y1 y2 y3
  have lA := hA.lt
  have K1 : Blk (w0.alloc (.cells #[.slice a1 s.i.length a2, .slice a3 s.o.length a4, .int .i64 s.ie, .int .i64 s.lost] 26)) w0.heap.size #[.slice a1 s.i.length a2, .slice a3 s.o.length a4, .int .i64 s.ie, .int .i64 s.lost] 26 := Blk.new _ _ _ _ rfl
  have T1 : Grew w0 (w0.alloc (.cells #[.slice a1 s.i.length a2, .slice a3 s.o.length a4, .int .i64 s.ie, .int .i64 s.lost] 26)) := (Grew.refl _).alloc _
  have G1 := g0.trans T1
  have hA1 := hA.grew T1
  have hWB : W.heap.size ≤ w0.heap.size := g0.size
  have hne : A ≠ w0.heap.size := Nat.ne_of_lt lA
  clear hA T1 g0 lA
  generalize (w0.alloc (.cells #[.slice a1 s.i.length a2, .slice a3 s.o.length a4, .int .i64 s.ie, .int .i64 s.lost] 26)) = w1 at *
  generalize w0.heap.size = B1 at *
  go_wp2_with fail
  go_loopw [6] (fun i wr => ∃ k : Nat, k ≤ m ∧ i = .int .i64 k ∧ ∃ p1 p2 p3 p4, Hid (Blk wr B1 #[.slice p1 (sK k).i.length p2, .slice p3 (sK k).o.length p4, .int .i64 (sK k).ie, .int .i64 (sK k).lost] 26) ∧ Hid (Blk wr A #[.slice a1 s.i.length a2, .slice a3 s.o.length a4, .int .i64 s.ie, .int .i64 s.lost] 26) ∧ Hid (Ua wr (uaV (sK k) p1 p2 p3 p4) (sK k)) ∧ Grew W wr) (fun i _ => m - (intOf i).toNat)
  case atStart => exact ⟨0, Nat.zero_le _, rfl, a1, a2, a3, a4, Lib.hid (by rw [H0.out]; exact K1), Lib.hid hA1, Lib.hid (by rw [H0.out]; exact HP.out.grew G1), G1⟩
  case round =>
    clear K1 hA1 G1
    obtain ⟨k, hk, rfl, p1, p2, p3, p4, KB, KA, PB, G1⟩ := hrel
    by_cases hlt' : k < m
    · have hlt'' : (k : Int) < (m : Nat) := by omega
      have hne' : xs ≠ [] := by
        rintro rfl
        have := HM.out
        simp at this
        omega
      obtain ⟨av', cv', ev, _, hav⟩ := HV.out.shape
      simp only [Value.slice.injEq] at ev
      obtain ⟨rfl, hml, rfl⟩ := ev
      clear hml
      obtain ⟨b, off, rfl, hat⟩ := hav hne'
      clear hav
      have c0 := hat k (by rw [HM.out]; exact hlt')
      have hbl := hat.lt hne'
      have hx := HV.out.ok.getD k
      have hS := RS.out k hlt'
      generalize xs.getD k 0 = x at *
      have HS := Lib.hid hS
      have C0 := Lib.hid c0
      clear hS c0 hat
      have kb := KB.out
      have lB := kb.lt
      have hx' : IntKind.u64.wrap x = x := IntWalk.u64_in x (by omega)
      go_upto_region 7 with fail
      refine wp_region_held_drew (S := fun w' => Grew wr w') (by kernel_rfl) (Grew.refl wr).drew1 (fun hHeld => ?_)
      replace hHeld : Grew wr wr.drew := hHeld
      generalize wr.drew = wq0 at *
      refine wpAnyH_take (i := 0) (v := ?_) rfl (by kernel_rfl) (by kernel_rfl) (by kernel_rfl) (fun _ _ _ h => h) (Or.inl ⟨by rfl, ?_⟩) hHeld ?_
      rotate_left
      · intro wq hSw
        replace hSw : Grew wr wq := hSw
        have z0 := (kb.grew hSw).cell 0
        have z1 := (kb.grew hSw).cell 1
        have z2 := (kb.grew hSw).cell 2
        have z3 := (kb.grew hSw).cell 3
        go_simp
        try with_reducible rfl
      try simp only [List.getElem_toArray, List.getElem_cons_succ, List.getElem_cons_zero, Act.put, List.setIfInBounds_toArray, List.set_cons_zero, List.set_cons_succ]
      refine wpAnyH_take (i := 1) (v := ?_) rfl (by kernel_rfl) (by kernel_rfl) (by kernel_rfl) (fun _ _ _ h => h) (Or.inl ⟨by rfl, ?_⟩) hHeld ?_
      rotate_left
      · intro wq hSw
        replace hSw : Grew wr wq := hSw
        go_simp
        try with_reducible rfl
      try simp only [List.getElem_toArray, List.getElem_cons_succ, List.getElem_cons_zero, Act.put, List.setIfInBounds_toArray, List.set_cons_zero, List.set_cons_succ]
      refine wpAnyH_take (i := 2) (v := ?_) rfl (by kernel_rfl) (by kernel_rfl) (by kernel_rfl) (fun _ _ _ h => h) (Or.inl ⟨by rfl, ?_⟩) hHeld ?_
      rotate_left
      · intro wq hSw
        replace hSw : Grew wr wq := hSw
        go_simp
        try with_reducible rfl
      try simp only [List.getElem_toArray, List.getElem_cons_succ, List.getElem_cons_zero, Act.put, List.setIfInBounds_toArray, List.set_cons_zero, List.set_cons_succ]
      refine wpAnyH_take (i := 3) (v := ?_) rfl (by kernel_rfl) (by kernel_rfl) (by kernel_rfl) (fun _ _ _ h => h) (Or.inl ⟨by rfl, ?_⟩) hHeld ?_
      rotate_left
      · intro wq hSw
        replace hSw : Grew wr wq := hSw
        go_simp
        try with_reducible rfl
      try simp only [List.getElem_toArray, List.getElem_cons_succ, List.getElem_cons_zero, Act.put, List.setIfInBounds_toArray, List.set_cons_zero, List.set_cons_succ]
      refine wpAnyH_take (i := 4) (v := ?_) rfl (by kernel_rfl) (by kernel_rfl) (by kernel_rfl) (fun _ _ _ h => h) (Or.inl ⟨by rfl, ?_⟩) hHeld ?_
      rotate_left
      · intro wq hSw
        replace hSw : Grew wr wq := hSw
        have z0 : wq.cell? ⟨b, off + k, none⟩ = some (.int .u8 x) := by rw [(gcell (G1.trans hSw)).1 b _ hbl]; exact C0.out
        go_simp
        try with_reducible rfl
      try simp only [List.getElem_toArray, List.getElem_cons_succ, List.getElem_cons_zero, Act.put, List.setIfInBounds_toArray, List.set_cons_zero, List.set_cons_succ]
      refine wpAnyH_take (i := 5) (v := ?_) rfl (by kernel_rfl) (by kernel_rfl) (by kernel_rfl) (fun _ _ _ h => h) (Or.inl ⟨by rfl, ?_⟩) hHeld ?_
      rotate_left
      · intro wq hSw
        replace hSw : Grew wr wq := hSw
        go_simp
        try with_reducible rfl
      try simp only [List.getElem_toArray, List.getElem_cons_succ, List.getElem_cons_zero, Act.put, List.setIfInBounds_toArray, List.set_cons_zero, List.set_cons_succ]
      refine wpAnyH_ready (rs := [6, 10]) (by kernel_rfl) (by simp) ?_
      refine AllReadyH.cons rfl (fun K hK => ?_) (AllReadyH.cons rfl (fun K hK => ?_) AllReadyH.nil)
      · go_simp
        refine Calls.mono (HS.out _ _ (PB.out.grew hHeld)) ?_
        rintro e w5 ⟨b1, b2, b3, b4, rfl, H3, g3⟩
        have lo3 := hHeld.size
        refine hK.out _ _ (hHeld.trans g3) (fun hHeld => ?_)
        clear hK K
        replace H3 := Lib.hid (H3.out.low lo3)
        clear g3 lo3
        try simp only [List.getElem_toArray, List.getElem_cons_succ, List.getElem_cons_zero, Act.put, List.setIfInBounds_toArray, List.set_cons_zero, List.set_cons_succ]
        refine wpAnyH_take (i := 7) (v := ?_) rfl (by kernel_rfl) (by kernel_rfl) (by kernel_rfl) (fun _ _ _ h => h) (Or.inl ⟨by rfl, ?_⟩) hHeld ?_
        rotate_left
        · intro wq hSw
          replace hSw : Grew wr wq := hSw
          go_simp
          try with_reducible rfl
        try simp only [List.getElem_toArray, List.getElem_cons_succ, List.getElem_cons_zero, Act.put, List.setIfInBounds_toArray, List.set_cons_zero, List.set_cons_succ]
        refine wpAnyH_take (i := 8) (v := ?_) rfl (by kernel_rfl) (by kernel_rfl) (by kernel_rfl) (fun _ _ _ h => h) (Or.inl ⟨by rfl, ?_⟩) hHeld ?_
        rotate_left
        · intro wq hSw
          replace hSw : Grew wr wq := hSw
          go_simp
          try with_reducible rfl
        try simp only [List.getElem_toArray, List.getElem_cons_succ, List.getElem_cons_zero, Act.put, List.setIfInBounds_toArray, List.set_cons_zero, List.set_cons_succ]
        refine wpAnyH_take (i := 9) (v := ?_) rfl (by kernel_rfl) (by kernel_rfl) (by kernel_rfl) (fun _ _ _ h => h) (Or.inl ⟨by rfl, ?_⟩) hHeld ?_
        rotate_left
        · intro wq hSw
          replace hSw : Grew wr wq := hSw
          go_simp
          try with_reducible rfl
        try simp only [List.getElem_toArray, List.getElem_cons_succ, List.getElem_cons_zero, Act.put, List.setIfInBounds_toArray, List.set_cons_zero, List.set_cons_succ]
        refine wpAnyH_ready (rs := [10]) (by kernel_rfl) (by simp) ?_
        refine AllReadyH.cons rfl (fun K hK => ?_) AllReadyH.nil
        go_simp
        have hB3 := hHeld.size
        refine hK.out _ _ (hHeld.alloc _) (fun hHeld => ?_)
        clear hK K
        have K3 : Blk (w5.alloc (.cells #[.slice none 0 0, .slice none 0 0, .int .i64 0, .int .i64 0] 26)) w5.heap.size #[.slice none 0 0, .slice none 0 0, .int .i64 0, .int .i64 0] 26 := Blk.new _ _ _ _ rfl
        replace H3 := Lib.hid (H3.out.grew ((Grew.refl w5).alloc (.cells #[.slice none 0 0, .slice none 0 0, .int .i64 0, .int .i64 0] 26)))
        generalize (w5.alloc (.cells #[.slice none 0 0, .slice none 0 0, .int .i64 0, .int .i64 0] 26)) = w6 at *
        generalize w5.heap.size = B3 at *
        try simp only [List.getElem_toArray, List.getElem_cons_succ, List.getElem_cons_zero, Act.put, List.setIfInBounds_toArray, List.set_cons_zero, List.set_cons_succ]
        refine wpAnyH_ready (rs := [11]) (by kernel_rfl) (by simp) ?_
        refine AllReadyH.cons rfl (fun K hK => ?_) AllReadyH.nil
        have z0 := K3.cell 0
        have z1 := K3.cell 1
        have z2 := K3.cell 2
        have z3 := K3.cell 3
        have f0 := K3.free 0
        have f1 := K3.free 1
        have f2 := K3.free 2
        have f3 := K3.free 3
        go_simp
        clear z0 f0 z1 f1 z2 f2 z3 f3
        have K30 := K3.set (o := 0) (.slice b1 (sK (k + 1)).i.length b2)
        have K31 := K30.set (o := 1) (.slice b3 (sK (k + 1)).o.length b4)
        have K32 := K31.set (o := 2) (.int .i64 (sK (k + 1)).ie)
        have K33 := K32.set (o := 3) (.int .i64 (sK (k + 1)).lost)
        have H3' := Lib.hid ((((H3.out.box K3 (by decide) (o := 0) (.slice b1 (sK (k + 1)).i.length b2)).box K30 (by decide) (o := 1) (.slice b3 (sK (k + 1)).o.length b4)).box K31 (by decide) (o := 2) (.int .i64 (sK (k + 1)).ie)).box K32 (by decide) (o := 3) (.int .i64 (sK (k + 1)).lost))
        refine hK.out _ _ (((((hHeld.setCell (b := B3) (o := 0) hB3 (.slice b1 (sK (k + 1)).i.length b2)).setCell (b := B3) (o := 1) hB3 (.slice b3 (sK (k + 1)).o.length b4)).setCell (b := B3) (o := 2) hB3 (.int .i64 (sK (k + 1)).ie)).setCell (b := B3) (o := 3) hB3 (.int .i64 (sK (k + 1)).lost))) (fun hHeld => ?_)
        clear hK K
        replace K3 : Blk ((((w6.setCell ⟨B3, 0, none⟩ (.slice b1 (sK (k + 1)).i.length b2)).setCell ⟨B3, 1, none⟩ (.slice b3 (sK (k + 1)).o.length b4)).setCell ⟨B3, 2, none⟩ (.int .i64 (sK (k + 1)).ie)).setCell ⟨B3, 3, none⟩ (.int .i64 (sK (k + 1)).lost)) B3 #[.slice b1 (sK (k + 1)).i.length b2, .slice b3 (sK (k + 1)).o.length b4, .int .i64 (sK (k + 1)).ie, .int .i64 (sK (k + 1)).lost] 26 := K33
        clear K30 K31 K32 K33
        replace H3 := H3'
        clear H3'
        generalize ((((w6.setCell ⟨B3, 0, none⟩ (.slice b1 (sK (k + 1)).i.length b2)).setCell ⟨B3, 1, none⟩ (.slice b3 (sK (k + 1)).o.length b4)).setCell ⟨B3, 2, none⟩ (.int .i64 (sK (k + 1)).ie)).setCell ⟨B3, 3, none⟩ (.int .i64 (sK (k + 1)).lost)) = w7 at *
        try simp only [List.getElem_toArray, List.getElem_cons_succ, List.getElem_cons_zero, Act.put, List.setIfInBounds_toArray, List.set_cons_zero, List.set_cons_succ]
        refine wpAnyH_ready (rs := [12]) (by kernel_rfl) (by simp) ?_
        refine AllReadyH.cons rfl (fun K hK => ?_) AllReadyH.nil
        go_simp
        refine hK.out _ _ (hHeld) (fun hHeld => ?_)
        clear hK K
        try simp only [List.getElem_toArray, List.getElem_cons_succ, List.getElem_cons_zero, Act.put, List.setIfInBounds_toArray, List.set_cons_zero, List.set_cons_succ]
        refine wpAnyH_done (by kernel_rfl) ?_ _
        try simp only [List.getElem_toArray, List.getElem_cons_succ, List.getElem_cons_zero, Act.put, List.setIfInBounds_toArray, List.set_cons_zero, List.set_cons_succ]
        have T3 := hHeld
        have kb3 := kb.grew T3
        have ka3 := KA.out.grew T3
        have G3 := G1.trans T3
        clear kb KB PB KA hHeld
        go_upto_region 10 with fail
        have y0 := K3.cell 0
        have y1 := K3.cell 1
        have y2 := K3.cell 2
        have y3 := K3.cell 3
        have z0 := kb3.cell 0
        have z1 := kb3.cell 1
        have z2 := kb3.cell 2
        have z3 := kb3.cell 3
        have f0 := kb3.free 0
        have f1 := kb3.free 1
        have f2 := kb3.free 2
        have f3 := kb3.free 3
        go_upto_region 6 with fail
        clear y0 y1 y2 y3 z0 z1 z2 z3 f0 f1 f2 f3
        have kb4 := ((((kb3.set (o := 0) (.slice b1 (sK (k + 1)).i.length b2)).set (o := 1) (.slice b3 (sK (k + 1)).o.length b4)).set (o := 2) (.int .i64 (sK (k + 1)).ie)).set (o := 3) (.int .i64 (sK (k + 1)).lost))
        have ka4 := ((((ka3.other hne (o := 0) (.slice b1 (sK (k + 1)).i.length b2)).other hne (o := 1) (.slice b3 (sK (k + 1)).o.length b4)).other hne (o := 2) (.int .i64 (sK (k + 1)).ie)).other hne (o := 3) (.int .i64 (sK (k + 1)).lost))
        have P4 := ((((H3.out.set (c := B1) lB (o := 0) (.slice b1 (sK (k + 1)).i.length b2)).set (c := B1) lB (o := 1) (.slice b3 (sK (k + 1)).o.length b4)).set (c := B1) lB (o := 2) (.int .i64 (sK (k + 1)).ie)).set (c := B1) lB (o := 3) (.int .i64 (sK (k + 1)).lost))
        have G4 := ((((G3.setCell (b := B1) (o := 0) (by omega) (.slice b1 (sK (k + 1)).i.length b2)).setCell (b := B1) (o := 1) (by omega) (.slice b3 (sK (k + 1)).o.length b4)).setCell (b := B1) (o := 2) (by omega) (.int .i64 (sK (k + 1)).ie)).setCell (b := B1) (o := 3) (by omega) (.int .i64 (sK (k + 1)).lost))
        generalize ((((w7.setCell ⟨B1, 0, none⟩ (.slice b1 (sK (k + 1)).i.length b2)).setCell ⟨B1, 1, none⟩ (.slice b3 (sK (k + 1)).o.length b4)).setCell ⟨B1, 2, none⟩ (.int .i64 (sK (k + 1)).ie)).setCell ⟨B1, 3, none⟩ (.int .i64 (sK (k + 1)).lost)) = w4 at *
        replace kb4 : Blk w4 B1 #[.slice b1 (sK (k + 1)).i.length b2, .slice b3 (sK (k + 1)).o.length b4, .int .i64 (sK (k + 1)).ie, .int .i64 (sK (k + 1)).lost] 26 := kb4
        go_wp2_with fail
        go_roundw
        case rel => exact ⟨k + 1, by omega, by go_num, b1, b2, b3, b4, Lib.hid kb4, Lib.hid ka4, Lib.hid P4.ua, G4⟩
        case measure => simp [intOf]; omega
      · go_simp
        have hB3 := hHeld.size
        refine hK.out _ _ (hHeld.alloc _) (fun hHeld => ?_)
        clear hK K
        have K3 : Blk (wq0.alloc (.cells #[.slice none 0 0, .slice none 0 0, .int .i64 0, .int .i64 0] 26)) wq0.heap.size #[.slice none 0 0, .slice none 0 0, .int .i64 0, .int .i64 0] 26 := Blk.new _ _ _ _ rfl
        generalize (wq0.alloc (.cells #[.slice none 0 0, .slice none 0 0, .int .i64 0, .int .i64 0] 26)) = w6 at *
        generalize wq0.heap.size = B3 at *
        try simp only [List.getElem_toArray, List.getElem_cons_succ, List.getElem_cons_zero, Act.put, List.setIfInBounds_toArray, List.set_cons_zero, List.set_cons_succ]
        refine wpAnyH_ready (rs := [6]) (by kernel_rfl) (by simp) ?_
        refine AllReadyH.cons rfl (fun K hK => ?_) AllReadyH.nil
        go_simp
        refine Calls.mono (HS.out _ _ (PB.out.grew hHeld)) ?_
        rintro e w5 ⟨b1, b2, b3, b4, rfl, H3, g3⟩
        have lo3 := hHeld.size
        refine hK.out _ _ (hHeld.trans g3) (fun hHeld => ?_)
        clear hK K
        replace H3 := Lib.hid (H3.out.low lo3)
        replace K3 := K3.grew g3
        clear g3 lo3
        try simp only [List.getElem_toArray, List.getElem_cons_succ, List.getElem_cons_zero, Act.put, List.setIfInBounds_toArray, List.set_cons_zero, List.set_cons_succ]
        refine wpAnyH_take (i := 7) (v := ?_) rfl (by kernel_rfl) (by kernel_rfl) (by kernel_rfl) (fun _ _ _ h => h) (Or.inl ⟨by rfl, ?_⟩) hHeld ?_
        rotate_left
        · intro wq hSw
          replace hSw : Grew wr wq := hSw
          go_simp
          try with_reducible rfl
        try simp only [List.getElem_toArray, List.getElem_cons_succ, List.getElem_cons_zero, Act.put, List.setIfInBounds_toArray, List.set_cons_zero, List.set_cons_succ]
        refine wpAnyH_take (i := 8) (v := ?_) rfl (by kernel_rfl) (by kernel_rfl) (by kernel_rfl) (fun _ _ _ h => h) (Or.inl ⟨by rfl, ?_⟩) hHeld ?_
        rotate_left
        · intro wq hSw
          replace hSw : Grew wr wq := hSw
          go_simp
          try with_reducible rfl
        try simp only [List.getElem_toArray, List.getElem_cons_succ, List.getElem_cons_zero, Act.put, List.setIfInBounds_toArray, List.set_cons_zero, List.set_cons_succ]
        refine wpAnyH_take (i := 9) (v := ?_) rfl (by kernel_rfl) (by kernel_rfl) (by kernel_rfl) (fun _ _ _ h => h) (Or.inl ⟨by rfl, ?_⟩) hHeld ?_
        rotate_left
        · intro wq hSw
          replace hSw : Grew wr wq := hSw
          go_simp
          try with_reducible rfl
        try simp only [List.getElem_toArray, List.getElem_cons_succ, List.getElem_cons_zero, Act.put, List.setIfInBounds_toArray, List.set_cons_zero, List.set_cons_succ]
        refine wpAnyH_ready (rs := [11]) (by kernel_rfl) (by simp) ?_
        refine AllReadyH.cons rfl (fun K hK => ?_) AllReadyH.nil
        have z0 := K3.cell 0
        have z1 := K3.cell 1
        have z2 := K3.cell 2
        have z3 := K3.cell 3
        have f0 := K3.free 0
        have f1 := K3.free 1
        have f2 := K3.free 2
        have f3 := K3.free 3
        go_simp
        clear z0 f0 z1 f1 z2 f2 z3 f3
        have K30 := K3.set (o := 0) (.slice b1 (sK (k + 1)).i.length b2)
        have K31 := K30.set (o := 1) (.slice b3 (sK (k + 1)).o.length b4)
        have K32 := K31.set (o := 2) (.int .i64 (sK (k + 1)).ie)
        have K33 := K32.set (o := 3) (.int .i64 (sK (k + 1)).lost)
        have H3' := Lib.hid ((((H3.out.box K3 (by decide) (o := 0) (.slice b1 (sK (k + 1)).i.length b2)).box K30 (by decide) (o := 1) (.slice b3 (sK (k + 1)).o.length b4)).box K31 (by decide) (o := 2) (.int .i64 (sK (k + 1)).ie)).box K32 (by decide) (o := 3) (.int .i64 (sK (k + 1)).lost))
        refine hK.out _ _ (((((hHeld.setCell (b := B3) (o := 0) hB3 (.slice b1 (sK (k + 1)).i.length b2)).setCell (b := B3) (o := 1) hB3 (.slice b3 (sK (k + 1)).o.length b4)).setCell (b := B3) (o := 2) hB3 (.int .i64 (sK (k + 1)).ie)).setCell (b := B3) (o := 3) hB3 (.int .i64 (sK (k + 1)).lost))) (fun hHeld => ?_)
        clear hK K
        replace K3 : Blk ((((w5.setCell ⟨B3, 0, none⟩ (.slice b1 (sK (k + 1)).i.length b2)).setCell ⟨B3, 1, none⟩ (.slice b3 (sK (k + 1)).o.length b4)).setCell ⟨B3, 2, none⟩ (.int .i64 (sK (k + 1)).ie)).setCell ⟨B3, 3, none⟩ (.int .i64 (sK (k + 1)).lost)) B3 #[.slice b1 (sK (k + 1)).i.length b2, .slice b3 (sK (k + 1)).o.length b4, .int .i64 (sK (k + 1)).ie, .int .i64 (sK (k + 1)).lost] 26 := K33
        clear K30 K31 K32 K33
        replace H3 := H3'
        clear H3'
        generalize ((((w5.setCell ⟨B3, 0, none⟩ (.slice b1 (sK (k + 1)).i.length b2)).setCell ⟨B3, 1, none⟩ (.slice b3 (sK (k + 1)).o.length b4)).setCell ⟨B3, 2, none⟩ (.int .i64 (sK (k + 1)).ie)).setCell ⟨B3, 3, none⟩ (.int .i64 (sK (k + 1)).lost)) = w7 at *
        try simp only [List.getElem_toArray, List.getElem_cons_succ, List.getElem_cons_zero, Act.put, List.setIfInBounds_toArray, List.set_cons_zero, List.set_cons_succ]
        refine wpAnyH_ready (rs := [12]) (by kernel_rfl) (by simp) ?_
        refine AllReadyH.cons rfl (fun K hK => ?_) AllReadyH.nil
        go_simp
        refine hK.out _ _ (hHeld) (fun hHeld => ?_)
        clear hK K
        try simp only [List.getElem_toArray, List.getElem_cons_succ, List.getElem_cons_zero, Act.put, List.setIfInBounds_toArray, List.set_cons_zero, List.set_cons_succ]
        refine wpAnyH_done (by kernel_rfl) ?_ _
        try simp only [List.getElem_toArray, List.getElem_cons_succ, List.getElem_cons_zero, Act.put, List.setIfInBounds_toArray, List.set_cons_zero, List.set_cons_succ]
        have T3 := hHeld
        have kb3 := kb.grew T3
        have ka3 := KA.out.grew T3
        have G3 := G1.trans T3
        clear kb KB PB KA hHeld
        go_upto_region 10 with fail
        have y0 := K3.cell 0
        have y1 := K3.cell 1
        have y2 := K3.cell 2
        have y3 := K3.cell 3
        have z0 := kb3.cell 0
        have z1 := kb3.cell 1
        have z2 := kb3.cell 2
        have z3 := kb3.cell 3
        have f0 := kb3.free 0
        have f1 := kb3.free 1
        have f2 := kb3.free 2
        have f3 := kb3.free 3
        go_upto_region 6 with fail
        clear y0 y1 y2 y3 z0 z1 z2 z3 f0 f1 f2 f3
        have kb4 := ((((kb3.set (o := 0) (.slice b1 (sK (k + 1)).i.length b2)).set (o := 1) (.slice b3 (sK (k + 1)).o.length b4)).set (o := 2) (.int .i64 (sK (k + 1)).ie)).set (o := 3) (.int .i64 (sK (k + 1)).lost))
        have ka4 := ((((ka3.other hne (o := 0) (.slice b1 (sK (k + 1)).i.length b2)).other hne (o := 1) (.slice b3 (sK (k + 1)).o.length b4)).other hne (o := 2) (.int .i64 (sK (k + 1)).ie)).other hne (o := 3) (.int .i64 (sK (k + 1)).lost))
        have P4 := ((((H3.out.set (c := B1) lB (o := 0) (.slice b1 (sK (k + 1)).i.length b2)).set (c := B1) lB (o := 1) (.slice b3 (sK (k + 1)).o.length b4)).set (c := B1) lB (o := 2) (.int .i64 (sK (k + 1)).ie)).set (c := B1) lB (o := 3) (.int .i64 (sK (k + 1)).lost))
        have G4 := ((((G3.setCell (b := B1) (o := 0) (by omega) (.slice b1 (sK (k + 1)).i.length b2)).setCell (b := B1) (o := 1) (by omega) (.slice b3 (sK (k + 1)).o.length b4)).setCell (b := B1) (o := 2) (by omega) (.int .i64 (sK (k + 1)).ie)).setCell (b := B1) (o := 3) (by omega) (.int .i64 (sK (k + 1)).lost))
        generalize ((((w7.setCell ⟨B1, 0, none⟩ (.slice b1 (sK (k + 1)).i.length b2)).setCell ⟨B1, 1, none⟩ (.slice b3 (sK (k + 1)).o.length b4)).setCell ⟨B1, 2, none⟩ (.int .i64 (sK (k + 1)).ie)).setCell ⟨B1, 3, none⟩ (.int .i64 (sK (k + 1)).lost)) = w4 at *
        replace kb4 : Blk w4 B1 #[.slice b1 (sK (k + 1)).i.length b2, .slice b3 (sK (k + 1)).o.length b4, .int .i64 (sK (k + 1)).ie, .int .i64 (sK (k + 1)).lost] 26 := kb4
        go_wp2_with fail
        go_roundw
        case rel => exact ⟨k + 1, by omega, by go_num, b1, b2, b3, b4, Lib.hid kb4, Lib.hid ka4, Lib.hid P4.ua, G4⟩
        case measure => simp [intOf]; omega
    · obtain rfl : k = m := by omega
      have hnl : ¬ ((k : Int) < (k : Nat)) := by omega
      have hi := HI.out
      have ho := HO.out
      have HSI := Lib.hid HP.out.i
      have HSO := Lib.hid HP.out.o
      have kb := KB.out
      have ka := KA.out
      have pb := PB.out
      generalize sK k = t at *
      have HTI : Hid (Buf wr (.slice p1 t.i.length p2) s.i) := Lib.hid (by have := pb.i; rwa [hi] at this ⊢)
      have HTO : Hid (Buf wr (.slice p3 t.o.length p4) (s.o ++ xs)) := Lib.hid (by have := pb.o; rwa [ho] at this ⊢)
      clear hi ho pb HI HO KB KA PB
      go_upto_region 11 with fail
      have HOK : Hid (AreBytes (s.o ++ xs)) := Lib.hid HTO.out.ok
      refine wp_region_held_drew (S := fun w' => Grew wr w') (by kernel_rfl) (Grew.refl wr).drew1 (fun hHeld => ?_)
      replace hHeld : Grew wr wr.drew := hHeld
      generalize wr.drew = wq0 at *
      refine wpAnyH_take (i := 0) (v := ?_) rfl (by kernel_rfl) (by kernel_rfl) (by kernel_rfl) (fun _ _ _ h => h) (Or.inl ⟨by rfl, ?_⟩) hHeld ?_
      rotate_left
      · intro wq hSw
        replace hSw : Grew wr wq := hSw
        go_simp
        try with_reducible rfl
      try simp only [List.getElem_toArray, List.getElem_cons_succ, List.getElem_cons_zero, Act.put, List.setIfInBounds_toArray, List.set_cons_zero, List.set_cons_succ]
      refine wpAnyH_take (i := 1) (v := ?_) rfl (by kernel_rfl) (by kernel_rfl) (by kernel_rfl) (fun _ _ _ h => h) (Or.inl ⟨by rfl, ?_⟩) hHeld ?_
      rotate_left
      · intro wq hSw
        replace hSw : Grew wr wq := hSw
        have z1 := (kb.grew hSw).cell 1
        go_simp
        try with_reducible rfl
      try simp only [List.getElem_toArray, List.getElem_cons_succ, List.getElem_cons_zero, Act.put, List.setIfInBounds_toArray, List.set_cons_zero, List.set_cons_succ]
      refine wpAnyH_take (i := 3) (v := ?_) rfl (by kernel_rfl) (by kernel_rfl) (by kernel_rfl) (fun _ _ _ h => h) (Or.inl ⟨by rfl, ?_⟩) hHeld ?_
      rotate_left
      · intro wq hSw
        replace hSw : Grew wr wq := hSw
        go_simp
        try with_reducible rfl
      try simp only [List.getElem_toArray, List.getElem_cons_succ, List.getElem_cons_zero, Act.put, List.setIfInBounds_toArray, List.set_cons_zero, List.set_cons_succ]
      refine wpAnyH_take (i := 4) (v := ?_) rfl (by kernel_rfl) (by kernel_rfl) (by kernel_rfl) (fun _ _ _ h => h) (Or.inl ⟨by rfl, ?_⟩) hHeld ?_
      rotate_left
      · intro wq hSw
        replace hSw : Grew wr wq := hSw
        have z1 := (ka.grew hSw).cell 1
        go_simp
        try with_reducible rfl
      try simp only [List.getElem_toArray, List.getElem_cons_succ, List.getElem_cons_zero, Act.put, List.setIfInBounds_toArray, List.set_cons_zero, List.set_cons_succ]
      refine wpAnyH_take (i := 6) (v := ?_) rfl (by kernel_rfl) (by kernel_rfl) (by kernel_rfl) (fun _ _ _ h => h) (Or.inl ⟨by rfl, ?_⟩) hHeld ?_
      rotate_left
      · intro wq hSw
        replace hSw : Grew wr wq := hSw
        go_simp
        try with_reducible rfl
      try simp only [List.getElem_toArray, List.getElem_cons_succ, List.getElem_cons_zero, Act.put, List.setIfInBounds_toArray, List.set_cons_zero, List.set_cons_succ]
      refine wpAnyH_ready (rs := [2]) (by kernel_rfl) (by simp) ?_
      refine AllReadyH.cons rfl (fun K hK => ?_) AllReadyH.nil
      go_simp
      have hsz := hHeld.size
      refine hK.out _ _ (hHeld.alloc _) (fun hHeld => ?_)
      clear hK K
      have H5 : Hid (Row (wq0.alloc (.cells #[] 5)) wr.heap.size (.slice (some ⟨wq0.heap.size, 0, none⟩) 0 0) []) := Lib.hid (Row.lit wq0 _ hsz #[] [] rfl (by simp [maxLen]) _ rfl 0 rfl)
      generalize (wq0.alloc (.cells #[] 5)) = w5 at *
      generalize wq0.heap.size = E0 at *
      clear hsz
      try simp only [List.getElem_toArray, List.getElem_cons_succ, List.getElem_cons_zero, Act.put, List.setIfInBounds_toArray, List.set_cons_zero, List.set_cons_succ]
      refine wpAnyH_ready (rs := [5]) (by kernel_rfl) (by simp) ?_
      refine AllReadyH.cons rfl (fun K hK => ?_) AllReadyH.nil
      refine step_append_t rfl (.tmp 47) (.tmp 49) rfl hHeld H5.out (HSO.out.grew (G1.trans hHeld)) (by rfl) (by rfl) (by have := hl1.out; rw [List.length_nil]; omega) ?_
      intro v6 w6 H6 g6
      refine hK.out _ _ (g6) (fun hHeld => ?_)
      clear hK K
      rw [List.nil_append] at H6
      try simp only [List.getElem_toArray, List.getElem_cons_succ, List.getElem_cons_zero, Act.put, List.setIfInBounds_toArray, List.set_cons_zero, List.set_cons_succ]
      refine wpAnyH_ready (rs := [7]) (by kernel_rfl) (by simp) ?_
      refine AllReadyH.cons rfl (fun K hK => ?_) AllReadyH.nil
      refine step_append_t rfl (.tmp 50) (.tmp 51) rfl hHeld H6.out (HV.out.grew (G1.trans hHeld)) (by rfl) (by rfl) hl1.out ?_
      intro v7 w7 H7 g7
      refine hK.out _ _ (g7) (fun hHeld => ?_)
      clear hK K
      have H7' := Lib.hid ((H7.out.buf HOK.out).bytes)
      try simp only [List.getElem_toArray, List.getElem_cons_succ, List.getElem_cons_zero, Act.put, List.setIfInBounds_toArray, List.set_cons_zero, List.set_cons_succ]
      refine wpAnyH_ready (rs := [8]) (by kernel_rfl) (by simp) ?_
      refine AllReadyH.cons rfl (fun K hK => ?_) AllReadyH.nil
      go_simp
      refine Calls.mono (same_c _ (HTO.out.grew hHeld).bytes H7'.out) ?_
      rintro e w8 ⟨rfl, h8⟩
      obtain rfl := h8.symm
      refine hK.out _ _ (hHeld) (fun hHeld => ?_)
      clear hK K
      try simp only [List.getElem_toArray, List.getElem_cons_succ, List.getElem_cons_zero, Act.put, List.setIfInBounds_toArray, List.set_cons_zero, List.set_cons_succ]
      refine wpAnyH_take (i := 9) (v := ?_) rfl (by kernel_rfl) (by kernel_rfl) (by kernel_rfl) (fun _ _ _ h => h) (Or.inl ⟨by rfl, ?_⟩) hHeld ?_
      rotate_left
      · intro wq hSw
        replace hSw : Grew wr wq := hSw
        go_simp
        try with_reducible rfl
      try simp only [List.getElem_toArray, List.getElem_cons_succ, List.getElem_cons_zero, Act.put, List.setIfInBounds_toArray, List.set_cons_zero, List.set_cons_succ]
      refine wpAnyH_take (i := 10) (v := ?_) rfl (by kernel_rfl) (by kernel_rfl) (by kernel_rfl) (fun _ _ _ h => h) (Or.inl ⟨by rfl, ?_⟩) hHeld ?_
      rotate_left
      · intro wq hSw
        replace hSw : Grew wr wq := hSw
        go_simp
        try with_reducible rfl
      try simp only [List.getElem_toArray, List.getElem_cons_succ, List.getElem_cons_zero, Act.put, List.setIfInBounds_toArray, List.set_cons_zero, List.set_cons_succ]
      refine wpAnyH_take (i := 11) (v := ?_) rfl (by kernel_rfl) (by kernel_rfl) (by kernel_rfl) (fun _ _ _ h => h) (Or.inl ⟨by rfl, ?_⟩) hHeld ?_
      rotate_left
      · intro wq hSw
        replace hSw : Grew wr wq := hSw
        have z0 := (kb.grew hSw).cell 0
        go_simp
        try with_reducible rfl
      try simp only [List.getElem_toArray, List.getElem_cons_succ, List.getElem_cons_zero, Act.put, List.setIfInBounds_toArray, List.set_cons_zero, List.set_cons_succ]
      refine wpAnyH_take (i := 12) (v := ?_) rfl (by kernel_rfl) (by kernel_rfl) (by kernel_rfl) (fun _ _ _ h => h) (Or.inl ⟨by rfl, ?_⟩) hHeld ?_
      rotate_left
      · intro wq hSw
        replace hSw : Grew wr wq := hSw
        go_simp
        try with_reducible rfl
      try simp only [List.getElem_toArray, List.getElem_cons_succ, List.getElem_cons_zero, Act.put, List.setIfInBounds_toArray, List.set_cons_zero, List.set_cons_succ]
      refine wpAnyH_take (i := 13) (v := ?_) rfl (by kernel_rfl) (by kernel_rfl) (by kernel_rfl) (fun _ _ _ h => h) (Or.inl ⟨by rfl, ?_⟩) hHeld ?_
      rotate_left
      · intro wq hSw
        replace hSw : Grew wr wq := hSw
        have z0 := (ka.grew hSw).cell 0
        go_simp
        try with_reducible rfl
      try simp only [List.getElem_toArray, List.getElem_cons_succ, List.getElem_cons_zero, Act.put, List.setIfInBounds_toArray, List.set_cons_zero, List.set_cons_succ]
      refine wpAnyH_ready (rs := [14]) (by kernel_rfl) (by simp) ?_
      refine AllReadyH.cons rfl (fun K hK => ?_) AllReadyH.nil
      go_simp
      refine Calls.mono (same_c _ (HTI.out.grew hHeld).bytes (HSI.out.grew (G1.trans hHeld)).bytes) ?_
      rintro e w9 ⟨rfl, h9⟩
      obtain rfl := h9.symm
      refine hK.out _ _ (hHeld) (fun hHeld => ?_)
      clear hK K
      try simp only [List.getElem_toArray, List.getElem_cons_succ, List.getElem_cons_zero, Act.put, List.setIfInBounds_toArray, List.set_cons_zero, List.set_cons_succ]
      refine wpAnyH_take (i := 15) (v := ?_) rfl (by kernel_rfl) (by kernel_rfl) (by kernel_rfl) (fun _ _ _ h => h) (Or.inl ⟨by rfl, ?_⟩) hHeld ?_
      rotate_left
      · intro wq hSw
        replace hSw : Grew wr wq := hSw
        go_simp
        try with_reducible rfl
      try simp only [List.getElem_toArray, List.getElem_cons_succ, List.getElem_cons_zero, Act.put, List.setIfInBounds_toArray, List.set_cons_zero, List.set_cons_succ]
      refine wpAnyH_take (i := 16) (v := ?_) rfl (by kernel_rfl) (by kernel_rfl) (by kernel_rfl) (fun _ _ _ h => h) (Or.inl ⟨by rfl, ?_⟩) hHeld ?_
      rotate_left
      · intro wq hSw
        replace hSw : Grew wr wq := hSw
        go_simp
        try with_reducible rfl
      try simp only [List.getElem_toArray, List.getElem_cons_succ, List.getElem_cons_zero, Act.put, List.setIfInBounds_toArray, List.set_cons_zero, List.set_cons_succ]
      refine wpAnyH_ready (rs := [17]) (by kernel_rfl) (by simp) ?_
      refine AllReadyH.cons rfl (fun K hK => ?_) AllReadyH.nil
      go_simp
      refine Calls.mono (heads_c hHeld) ?_
      rintro e w9 ⟨rfl, g9⟩
      refine hK.out _ _ (g9) (fun hHeld => ?_)
      clear hK K
      try simp only [List.getElem_toArray, List.getElem_cons_succ, List.getElem_cons_zero, Act.put, List.setIfInBounds_toArray, List.set_cons_zero, List.set_cons_succ]
      refine wpAnyH_take (i := 18) (v := ?_) rfl (by kernel_rfl) (by kernel_rfl) (by kernel_rfl) (fun _ _ _ h => h) (Or.inl ⟨by rfl, ?_⟩) hHeld ?_
      rotate_left
      · intro wq hSw
        replace hSw : Grew wr wq := hSw
        go_simp
        try with_reducible rfl
      try simp only [List.getElem_toArray, List.getElem_cons_succ, List.getElem_cons_zero, Act.put, List.setIfInBounds_toArray, List.set_cons_zero, List.set_cons_succ]
      refine wpAnyH_ready (rs := [19]) (by kernel_rfl) (by simp) ?_
      refine AllReadyH.cons rfl (fun K hK => ?_) AllReadyH.nil
      go_simp
      refine hK.out _ _ (hHeld) (fun hHeld => ?_)
      clear hK K
      try simp only [List.getElem_toArray, List.getElem_cons_succ, List.getElem_cons_zero, Act.put, List.setIfInBounds_toArray, List.set_cons_zero, List.set_cons_succ]
      refine wpAnyH_done (by kernel_rfl) ?_ _
      try simp only [List.getElem_toArray, List.getElem_cons_succ, List.getElem_cons_zero, Act.put, List.setIfInBounds_toArray, List.set_cons_zero, List.set_cons_succ]
      have G9 := G1.trans hHeld
      clear hHeld
      go_wp2_with fail
      go_ret
      exact ⟨rfl, by rw [← hAe]; exact G9⟩

theorem drop_one (xs : List Int) (k : Nat) (hk : k < xs.length) (h : AreBytes xs) : xs.take k ++ [xs.getD k 0 % 256] = xs.take (k + 1) := by
  have hb := h.getD k
  have e : xs.getD k 0 % 256 = xs.getD k 0 := by omega
  rw [e, List.take_add_one]
  simp [hk]
theorem walk (s : US) {a1 : Option Addr} {a2 : Nat} {a3 : Option Addr} {a4 : Nat} (v : Value) (xs : List Int) (W : World) (hP : Ua W (uaV s a1 a2 a3 a4) s) (hV : Buf W v xs) :
    Calls Try.prog 5 #[uaV s a1 a2 a3 a4, v] W fun e w' => e = .returned (.bool true) ∧ Below W.heap.size W w' := by
  obtain ⟨a, c, rfl, hc, _⟩ := hV.shape
  cases hb : (decide ((300 : Int) < (xs.length : Nat)) || decide ((3000 : Int) < (s.o.length : Nat)) || decide ((3000 : Int) < (s.i.length : Nat)))
  · simp only [Bool.or_eq_false_iff, decide_eq_false_iff_not] at hb
    obtain ⟨⟨h1, h2⟩, h3⟩ := hb
    refine walk_near s xs.length a c xs rfl (fun k => ⟨s.i, s.o ++ xs.take k, s.ie, s.lost⟩) W hP hV h1 h2 h3 (by simp) rfl (by simp) ?_
    intro k hk w v hv
    have hl : (s.o ++ xs.take k).length ≤ 3300 := by rw [List.length_append, List.length_take]; omega
    have hf : fitN (s.o ++ xs.take k).length 1 4096 = 1 := by unfold fitN; omega
    refine store_a (s := ⟨s.i, s.o ++ xs.take k, s.ie, s.lost⟩) (by show s.i.length ≤ _; omega) (Nat.le_trans hl (by decide)) (hV.ok.getD k).1 ?_ rfl w v hv
    show (⟨s.i, (s.o ++ xs.take k) ++ [xs.getD k 0 % 256].take (fitN (s.o ++ xs.take k).length 1 4096), s.ie, s.lost⟩ : US) = _
    rw [hf, show [xs.getD k 0 % 256].take 1 = [xs.getD k 0 % 256] from rfl, List.append_assoc, drop_one xs k hk hV.ok]
  · exact walk_far s xs.length a c W _ _ _ rfl rfl rfl hb
set_option maxRecDepth 100000 in
theorem lifted (os : Os) (started : os.Started) (H : Type) (enc : TypeId × Value → H) :
    ReturnsInHanded {} Try.checked os 5 .any (Rows.uartOutSpec.pre6 enc Try.prog Try.f5 Rows.uartOutRow.domain false) (Rows.uartOutSpec.post enc Try.prog Try.f5 false true false false) := by
  refine returnsInHanded_of_change (C := Try.checked) own started (by kernel_rfl) Try.func5
    (ChangeSpec.witness6 (enc := enc) (C := Try.checked) false ⟨#[], #[.agg #[.slice none 0 0, .slice none 0 0, .int .i64 0, .int .i64 0], .slice none 0 0], []⟩ 8 (by kernel_rfl) (by kernel_rfl) (by kernel_rfl) (by kernel_rfl)) ?_
  intro W base args ds gs before hval0 hW _ _
  have hval : ∀ (j : Nat) t v, Try.f5.params[j]? = some t → args[j]? = some v → Value.okWide Try.prog W .any base t v := hval0
  have hW' := hW
  obtain ⟨p, q, hA0, hV, rfl, hfz, hnd⟩ := hW
  have hA : DataW.TrodAll enc Try.prog W 0 (fun _ => true) true Try.f5.params.toList args.toList ds p := hA0
  rw [Try.params5] at hA hval
  obtain ⟨v0, vs0, d0, ds0, p0, q0, hargs, rfl, rfl, h0, r'0⟩ := trodAll_cons hA
  obtain ⟨v1, vs1, d1, ds1, p1, q1, rfl, rfl, rfl, h1, r'1⟩ := trodAll_cons r'0
  obtain ⟨rfl, rfl, rfl⟩ := trodAll_nil r'1
  obtain rfl : args = #[v0, v1] := by cases args; simp_all
  obtain ⟨s0, ua0, uc0, ub0, ud0, rfl, k0⟩ := open_uart (hval 0 26 v0 rfl rfl) h0
  obtain ⟨x1, k1⟩ := open_buf Try.underlying24 Try.underlying5 (by kernel_rfl) (hval 1 24 v1 rfl rfl) h1
  refine (walk s0 v1 x1 W k0 k1).mono fun e W' ⟨he, hb⟩ => ?_
  subst he
  exact ⟨_, rfl, law_post hW' rfl rfl laid (by kernel_rfl) rfl Try.underlying4 hb⟩

theorem over : Rows.uartOutRow.holds Try.pinned (OpenSpec.ofChange Rows.uartOutSpec) :=
  OpenClaim.holds_of_wide 5 Try.f5 rfl rfl rfl rfl rfl rfl rfl ⟨rfl, rfl, rfl, rfl, rfl⟩ rfl rfl rfl rfl rfl (by kernel_rfl) Try.func5 (by kernel_rfl)
    (of_decide_eq_true (by kernel_rfl)) (by unfold Func.isWrapper; first | (rw [if_pos (by decide +kernel)]; kernel_rfl) | (rw [if_neg (by decide +kernel)]; exact ⟨rfl, rfl⟩))
    (fun os started H enc _ => lifted os started H enc)

theorem proved : Rows.UartOutSaid := over
#print axioms proved
end Go.Proofs.Ytegncliegmknaaa.uartOut
