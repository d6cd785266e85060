/-
  The statement that a line holds no more than it may, and counts all that it lost. For every rows of bytes. Conditions: none.
-/
import Derived.Test.YtegncliegmknaaaRows
import Derived.Test.YtegncliegmknaaaUaG
import Derived.Test.YtegncliegmknaaaLaw
import Derived.Deep.QuietTactic
import Derived.BigQuiet
import Derived.Deep.DeepCutAuto
import Derived.Test.YtegncliegmknaaaBufs
import Derived.Deep.RegionHeld3
set_option linter.unusedVariables false
set_option linter.unusedSimpArgs false
namespace Go.Proofs.Ytegncliegmknaaa.uartBounds
open Go.ChangeShapes Go.WideShapes Go.ChangeAt Go.RowKit

set_option maxHeartbeats 1000000 in
theorem walk_far (a : Option Addr) (n c : Nat) (W : World) (hn : (50 : Int) < (n : Nat)) :
    Calls Try.prog 3 #[.slice a n c] W fun e w' => e = .returned (.bool true) ∧ Below W.heap.size W w' := by
  go_enter Try.func3, Try.ntmps3
  go_wp2_with fail
  refine (heads_c (Grew.refl _)).mono ?_
  rintro e w1 ⟨rfl, g1⟩
  go_wp2_with fail
  go_ret
  exact ⟨rfl, g1⟩

/-- A line of which nothing went, with x bytes in all. -/
structure Fine (s : US) (x : Int) : Prop where
  i : s.i.length ≤ 16
  o : s.o.length = 0
  ie : s.ie = 0
  sum : (s.i.length : Int) + s.lost = x
  lost : 0 ≤ s.lost
theorem fine_next {s : US} {x : Int} (h : Fine s x) (ys : List Int) (hx : x + ys.length < 2147483648) : Fine (tyS s ys) (x + ys.length) := by
  have hf := fitN_le s.i.length ys.length 16
  have hg : fitN s.i.length ys.length 16 ≤ 16 - s.i.length := Nat.min_le_right _ _
  have h1 := h.i
  have h2 := h.sum
  have h3 := h.lost
  have hl : (s.i ++ ys.take (fitN s.i.length ys.length 16)).length = s.i.length + fitN s.i.length ys.length 16 := by rw [List.length_append, List.length_take]; omega
  have he : (tyS s ys).lost = s.lost + ((ys.length : Int) - fitN s.i.length ys.length 16) := by
    show (if s.lost < 2147483648 then min (s.lost + ((ys.length : Int) - fitN s.i.length ys.length 16)) 2147483648 else s.lost) = _
    rw [if_pos (by omega), Int.min_eq_left (by omega)]
  refine ⟨?_, h.o, h.ie, ?_, ?_⟩
  · show (s.i ++ ys.take (fitN s.i.length ys.length 16)).length ≤ 16
    omega
  · show (((s.i ++ ys.take (fitN s.i.length ys.length 16)).length : Nat) : Int) + (tyS s ys).lost = _
    rw [he, hl]
    omega
  · rw [he]; omega
/-- What the line is behind k rows, and how many bytes they have. -/
def lineK (xss : List (List Int)) : Nat → US
  | 0 => hU0
  | k + 1 => tyS (lineK xss k) (xss.getD k [])
def totK (xss : List (List Int)) : Nat → Int
  | 0 => 0
  | k + 1 => totK xss k + (xss.getD k []).length
/-- The first k rows have at most a thousand bytes each. -/
def Short (xss : List (List Int)) (k : Nat) : Prop := ∀ j, j < k → (xss.getD j []).length ≤ 1000
theorem tot_le {xss : List (List Int)} : ∀ {k : Nat}, Short xss k → 0 ≤ totK xss k ∧ totK xss k ≤ 1000 * k
  | 0, _ => by simp [totK]
  | k + 1, h => by
    have ih := tot_le (k := k) fun j hj => h j (by omega)
    have := h k (by omega)
    unfold totK
    omega
theorem fine_k {xss : List (List Int)} : ∀ {k : Nat}, k ≤ 50 → Short xss k → Fine (lineK xss k) (totK xss k)
  | 0, _, _ => ⟨show hU0.i.length ≤ 16 by decide, rfl, rfl, rfl, show 0 ≤ hU0.lost by decide⟩
  | k + 1, hk, h => by
    have h' : Short xss k := fun j hj => h j (by omega)
    have ih := fine_k (k := k) (by omega) h'
    have ht := tot_le h'
    have := h k (by omega)
    exact fine_next ih _ (by omega)

set_option maxRecDepth 100000 in
set_option maxHeartbeats 4000000 in
theorem walk_near (m : Nat) (av : Option Addr) (cv : Nat) (xss : List (List Int)) (hm : xss.length = m) (W : World) (hV : Bufs W (.slice av m cv) xss) (h1 : ¬ ((50 : Int) < (m : Nat))) :
    Calls Try.prog 3 #[.slice av m cv] W fun e w' => e = .returned (.bool true) ∧ Below W.heap.size W w' := by
  have HV := Lib.hid hV
  have HM := Lib.hid hm
  have hm50 : m ≤ 50 := by omega
  clear hV hm
  go_enter Try.func3, Try.ntmps3
  go_upto_region 4 with fail
  have K1 : Blk (W.alloc (.cells #[.slice none 0 0, .slice none 0 0, .int .i64 0, .int .i64 0] 26)) W.heap.size #[.slice none 0 0, .slice none 0 0, .int .i64 0, .int .i64 0] 26 := Blk.new _ _ _ _ rfl
  have G1 : Grew W (W.alloc (.cells #[.slice none 0 0, .slice none 0 0, .int .i64 0, .int .i64 0] 26)) := (Grew.refl W).alloc _
  have hWB : W.heap.size ≤ W.heap.size := Nat.le_refl _
  generalize (W.alloc (.cells #[.slice none 0 0, .slice none 0 0, .int .i64 0, .int .i64 0] 26)) = w1 at *
  generalize hBe : W.heap.size = B1 at *
  go_upto_region 6 with fail
  go_loopw [4, 5] (fun n i wr => ∃ k : Nat, k ≤ m ∧ i = .int .i64 k ∧ n = .int .i64 (totK xss k) ∧ Hid (Short xss k) ∧ ∃ p1 p2 p3 p4, Hid (Blk wr B1 #[.slice p1 (lineK xss k).i.length p2, .slice p3 (lineK xss k).o.length p4, .int .i64 (lineK xss k).ie, .int .i64 (lineK xss k).lost] 26) ∧ Hid (Ua wr (uaV (lineK xss k) p1 p2 p3 p4) (lineK xss k)) ∧ Grew W wr) (fun _ i _ => m - (intOf i).toNat)
  case atStart => exact ⟨0, Nat.zero_le _, rfl, rfl, Lib.hid (fun j hj => by omega), none, 0, none, 0, Lib.hid K1, Lib.hid (ua_zero _), G1⟩
  case round =>
    clear K1 G1
    obtain ⟨k, hk, rfl, rfl, HS, p1, p2, p3, p4, KB, PB, G1⟩ := hrel
    by_cases hlt' : k < m
    · have hlt'' : (k : Int) < (m : Nat) := by omega
      have hne' : xss ≠ [] := by
        rintro rfl
        have := HM.out
        simp at this
        omega
      obtain ⟨av', cv', ev, hav⟩ := HV.out.shape
      simp only [Value.slice.injEq] at ev
      obtain ⟨rfl, hml, rfl⟩ := ev
      clear hml
      obtain ⟨b, off, rfl, hbl, hat⟩ := hav hne'
      clear hav
      obtain ⟨u, hu, hB⟩ := hat k (by rw [HM.out]; exact hlt')
      clear hat
      have hnx := fun (h : (xss.getD k []).length ≤ 1000) => (show Short xss (k + 1) from fun j hj => by
        by_cases e : j = k
        · rw [e]; exact h
        · exact HS.out j (by omega))
      have hfine := fun (h : (xss.getD k []).length ≤ 1000) => fine_k (k := k + 1) (by omega) (hnx h)
      have hf0 := fine_k (k := k) (by omega) HS.out
      have htl := tot_le HS.out
      have hT : ∀ w v u, Ua w v (lineK xss k) → Buf w u (xss.getD k []) → (xss.getD k []).length ≤ 1000 → AnsR 7 #[v, u] (fun v' => v') (lineK xss (k + 1)) w := fun w v u h1 h2 h3 => type_a (by have := hf0.i; omega) (by have := hf0.o; omega) (by omega) rfl w v u h1 h2
      have htk : totK xss (k + 1) = totK xss k + (xss.getD k []).length := rfl
      obtain ⟨q1, q2, rfl, _, _⟩ := hB.shape
      have HY := Lib.hid hB
      have C0 := Lib.hid hu
      have hl9 := hB.len
      have kb := KB.out
      have lB := kb.lt
      have HTL := Lib.hid htl
      have HTK := Lib.hid htk
      have HNX := Lib.hid hnx
      have HFI := Lib.hid hfine
      have HTT := Lib.hid hT
      clear hB hu htl htk hnx hfine hf0 hT
      generalize (xss.getD k []).length = L at *
      have c0 : wr.cell? ⟨b, off + k, none⟩ = some (.slice q1 L q2) := by rw [(gcell G1).1 b _ hbl]; exact C0.out
      by_cases hL : (1000 : Int) < (L : Nat)
      · go_wp2_with fail
        refine (heads_c G1).mono ?_
        rintro e w2 ⟨rfl, g2⟩
        go_wp2_with fail
        go_ret
        first | exact ⟨rfl, g2⟩ | exact ⟨rfl, by rw [← hBe]; exact g2⟩
      · have hL' : L ≤ 1000 := by omega
        have HT := Lib.hid (fun w v u h1 h2 => HTT.out w v u h1 h2 hL')
        have hfi := HFI.out hL'
        have hS1 := HNX.out hL'
        have htk := HTK.out
        have htl := HTL.out
        generalize hte : lineK xss (k + 1) = t at *
        generalize hTe : totK xss (k + 1) = T at *
        generalize hT0 : totK xss k = T0 at *
        have hw1 : IntKind.i64.wrap (T0 + (L : Nat)) = T := by rw [htk]; exact IntWalk.i64_in _ (by omega)
        have f16 : ¬ ((16 : Int) < (t.i.length : Nat)) := by have := hfi.i; omega
        have hsum := hfi.sum
        have hw2 : IntKind.i64.wrap ((t.i.length : Nat) + t.lost) = T := by rw [hsum, htk]; exact IntWalk.i64_in _ (by omega)
        have hto := hfi.o
        have htie := hfi.ie
        have HF := Lib.hid hfi
        have HW1 := Lib.hid hw1
        have HW2 := Lib.hid hw2
        have HTO := Lib.hid hto
        have HTI := Lib.hid htie
        have H16 := Lib.hid f16
        have HTE := Lib.hid hte
        have HT1 := Lib.hid hTe
        have HT2 := Lib.hid hT0
        clear hfi hw1 hw2 hto htie f16 hsum htk htl hte hTe hT0 hl9
        go_upto_region 10 with fail
        have z0 := fun z : Over wr => kb.overCell 0 _ rfl z
        have z1 := fun z : Over wr => kb.overCell 1 _ rfl z
        have z2 := fun z : Over wr => kb.overCell 2 _ rfl z
        have z3 := fun z : Over wr => kb.overCell 3 _ rfl z
        have zc := fun z : Over wr => Over.cell (Nat.lt_of_lt_of_le hbl G1.size) c0 z
        refine region_over_tail 5 (by kernel_rfl) (by kernel_rfl) ?_
        simp only [List.take_succ_cons, List.take_zero, List.drop_succ_cons, List.drop_zero]
        repeat (first | go_big_quiet_step (fail) | quiet_step (fail))
        refine wpQuiet_nil ?_
        intro z
        have hHeld := z.g
        generalize z.w = wq at *
        clear z zc z0 z1 z2 z3
        go_wp2_with fail
        refine Calls.mono (HT.out _ _ _ (PB.out.grew hHeld) (HY.out.grew (G1.trans hHeld))) ?_
        rintro e w5 ⟨b1, b2, b3, b4, rfl, H3, g3⟩
        have lo3 := hHeld.size
        have kb5 := kb.grew (hHeld.trans g3)
        replace H3 := Lib.hid (H3.out.low lo3)
        replace hHeld := hHeld.trans g3
        clear lo3 g3
        have z0 := kb5.cell 0
        have z1 := kb5.cell 1
        have z2 := kb5.cell 2
        have z3 := kb5.cell 3
        have f0 := kb5.free 0
        have f1 := kb5.free 1
        have f2 := kb5.free 2
        have f3 := kb5.free 3
        go_upto_region 11 with fail
        clear z0 z1 z2 z3 f0 f1 f2 f3
        have kb6 := ((((kb5.set (o := 0) (.slice b1 t.i.length b2)).set (o := 1) (.slice b3 t.o.length b4)).set (o := 2) (.int .i64 t.ie)).set (o := 3) (.int .i64 t.lost))
        have P6 := ((((H3.out.set (c := B1) lB (o := 0) (.slice b1 t.i.length b2)).set (c := B1) lB (o := 1) (.slice b3 t.o.length b4)).set (c := B1) lB (o := 2) (.int .i64 t.ie)).set (c := B1) lB (o := 3) (.int .i64 t.lost))
        have G6 := (((((G1.trans hHeld).setCell (b := B1) (o := 0) (by omega) (.slice b1 t.i.length b2)).setCell (b := B1) (o := 1) (by omega) (.slice b3 t.o.length b4)).setCell (b := B1) (o := 2) (by omega) (.int .i64 t.ie)).setCell (b := B1) (o := 3) (by omega) (.int .i64 t.lost))
        generalize ((((w5.setCell ⟨B1, 0, none⟩ (.slice b1 t.i.length b2)).setCell ⟨B1, 1, none⟩ (.slice b3 t.o.length b4)).setCell ⟨B1, 2, none⟩ (.int .i64 t.ie)).setCell ⟨B1, 3, none⟩ (.int .i64 t.lost)) = w6 at *
        replace kb6 : Blk w6 B1 #[.slice b1 t.i.length b2, .slice b3 t.o.length b4, .int .i64 t.ie, .int .i64 t.lost] 26 := kb6
        clear hHeld kb kb5 KB PB c0
        have c0 : w6.cell? ⟨b, off + k, none⟩ = some (.slice q1 L q2) := by rw [(gcell G6).1 b _ hbl]; exact C0.out
        have hw1 := HW1.out
        go_upto_region 12 with fail
        clear hw1
        have y0 := kb6.cell 0
        have y1 := kb6.cell 1
        have y2 := kb6.cell 2
        have y3 := kb6.cell 3
        have hw2 := HW2.out
        have f16 := H16.out
        rw [HTI.out] at y2
        rw [HTO.out] at y1
        go_wp2_with fail
        go_roundw
        case rel => exact ⟨k + 1, by omega, by go_num, by rw [HT1.out], Lib.hid hS1, b1, b2, b3, b4, Lib.hid (by rw [HTE.out]; exact kb6), Lib.hid (by rw [HTE.out]; exact P6.ua), G6⟩
        case measure => simp [intOf]; omega
    · obtain rfl : k = m := by omega
      have hnl : ¬ ((k : Int) < (k : Nat)) := by omega
      go_wp2_with fail
      refine (heads_c G1).mono ?_
      rintro e w2 ⟨rfl, g2⟩
      go_wp2_with fail
      go_ret
      first | exact ⟨rfl, g2⟩ | exact ⟨rfl, by rw [← hBe]; exact g2⟩

theorem walk (v : Value) (xss : List (List Int)) (W : World) (hV : Bufs W v xss) :
    Calls Try.prog 3 #[v] W fun e w' => e = .returned (.bool true) ∧ Below W.heap.size W w' := by
  obtain ⟨a, c, rfl, _⟩ := hV.shape
  by_cases hn : (50 : Int) < (xss.length : Nat)
  · exact walk_far _ _ _ W hn
  · exact walk_near _ _ _ xss rfl W hV hn
set_option maxRecDepth 100000 in
theorem lifted (os : Os) (started : os.Started) (H : Type) (enc : TypeId × Value → H) :
    ReturnsInHanded {} Try.checked os 3 .any (Rows.uartBoundsSpec.pre6 enc Try.prog Try.f3 Rows.uartBoundsRow.domain false) (Rows.uartBoundsSpec.post enc Try.prog Try.f3 false true false false) := by
  refine returnsInHanded_of_change (C := Try.checked) own started (by kernel_rfl) Try.func3
    (ChangeSpec.witness6 (enc := enc) (C := Try.checked) false ⟨#[], #[.slice none 0 0], []⟩ 8 (by kernel_rfl) (by kernel_rfl) (by kernel_rfl) (by kernel_rfl)) ?_
  intro W base args ds gs before hval0 hW _ _
  have hval : ∀ (j : Nat) t v, Try.f3.params[j]? = some t → args[j]? = some v → Value.okWide Try.prog W .any base t v := hval0
  have hW' := hW
  obtain ⟨p, q, hA0, hV, rfl, hfz, hnd⟩ := hW
  have hA : DataW.TrodAll enc Try.prog W 0 (fun _ => true) true Try.f3.params.toList args.toList ds p := hA0
  rw [Try.params3] at hA hval
  obtain ⟨v0, vs0, d0, ds0, p0, q0, hargs, rfl, rfl, h0, r'0⟩ := trodAll_cons hA
  obtain ⟨rfl, rfl, rfl⟩ := trodAll_nil r'0
  obtain rfl : args = #[v0] := by cases args; simp_all
  obtain ⟨x0, k0⟩ := open_bufs Try.underlying22 (by kernel_rfl) Try.underlying24 Try.underlying5 (by kernel_rfl) (hval 0 22 v0 rfl rfl) h0
  refine (walk v0 x0 W k0).mono fun e W' ⟨he, hb⟩ => ?_
  subst he
  exact ⟨_, rfl, law_post hW' rfl rfl laid (by kernel_rfl) rfl Try.underlying4 hb⟩

theorem over : Rows.uartBoundsRow.holds Try.pinned (OpenSpec.ofChange Rows.uartBoundsSpec) :=
  OpenClaim.holds_of_wide 3 Try.f3 rfl rfl rfl rfl rfl rfl rfl ⟨rfl, rfl, rfl, rfl, rfl⟩ rfl rfl rfl rfl rfl (by kernel_rfl) Try.func3 (by kernel_rfl)
    (of_decide_eq_true (by kernel_rfl)) (by unfold Func.isWrapper; first | (rw [if_pos (by decide +kernel)]; kernel_rfl) | (rw [if_neg (by decide +kernel)]; exact ⟨rfl, rfl⟩))
    (fun os started H enc _ => lifted os started H enc)

theorem proved : Rows.UartBoundsSaid := over
#print axioms proved
end Go.Proofs.Ytegncliegmknaaa.uartBounds
