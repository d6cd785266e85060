/-
  The statement that what is typed is loaded in order, up to sixteen, and that all others are counted. For every bytes. Conditions: none.
-/
import Derived.Test.YtegncliegmknaaaRows
import Derived.Test.YtegncliegmknaaaUaG
import Derived.Test.YtegncliegmknaaaLaw
import Derived.Deep.QuietTactic
import Derived.BigQuiet
import Derived.Deep.DeepCutAuto
set_option linter.unusedVariables false
set_option linter.unusedSimpArgs false
namespace Go.Proofs.Ytegncliegmknaaa.uartOrder
open Go.ChangeShapes Go.WideShapes Go.ChangeAt Go.RowKit

set_option maxHeartbeats 1000000 in
theorem walk_far (v : Value) (n : Nat) (a : Option Addr) (c : Nat) (hv : v = .slice a n c) (W : World) (hn : (1000 : Int) < (n : Nat)) :
    Calls Try.prog 4 #[v] W fun e w' => e = .returned (.bool true) ∧ Below W.heap.size W w' := by
  subst hv
  go_enter Try.func4, Try.ntmps4
  go_wp2_with fail
  refine (heads_c (Grew.refl _)).mono ?_
  rintro e w1 ⟨rfl, g1⟩
  go_wp2_with fail
  go_ret
  exact ⟨rfl, g1⟩

set_option maxRecDepth 100000 in
set_option maxHeartbeats 2000000 in
theorem walk_near (m n : Nat) (av : Option Addr) (cv : Nat) (xs : List Int) (hm : xs.length = m) (sK : Nat → US) (lost : Int) (W : World) (hV : Buf W (.slice av m cv) xs) (hle : ¬ ((1000 : Int) < (m : Nat))) (hnm : n ≤ m)
    (hmin : ∀ ts t w', (Builtin.min_ ts t #[.int .i64 m, .int .i64 16]).run Try.prog w' = .ok (.int .i64 n) w')
    (hsub : IntKind.i64.wrap ((m : Int) - n) = lost) (hlost : ∀ k, (sK k).lost = lost) (hin : (sK n).i.length = 0)
    (rT : ∀ w v u, Ua w v hU0 → Buf w u xs → AnsR 7 #[v, u] (fun v' => v') (sK 0) w)
    (rL : ∀ k, k < n → ∀ w v, Ua w v (sK k) → AnsR 8 #[v, .int .u64 0, .int .i64 1] (fun v' => .tuple #[.int .u64 (xs.getD k 0), v', .bool true]) (sK (k + 1)) w)
    (rE : ∀ w v, Ua w v (sK n) → AnsR 8 #[v, .int .u64 0, .int .i64 1] (fun v' => .tuple #[.int .u64 0, v', .bool true]) (sK n) w) :
    Calls Try.prog 4 #[.slice av m cv] W fun e w' => e = .returned (.bool true) ∧ Below W.heap.size W w' := by
  have RT := Lib.hid rT
  have RL := Lib.hid rL
  have RE := Lib.hid rE
  have HV := Lib.hid hV
  have HM := Lib.hid hm
  have HLO := Lib.hid hlost
  have HIN := Lib.hid hin
  clear rT rL rE hV hm hlost hin
  go_enter Try.func4, Try.ntmps4
  go_wp2_with fail
  refine Calls.mono (RT.out _ _ _ (ua_zero W) HV.out) ?_
  rintro e w0 ⟨a1, a2, a3, a4, rfl, H1, g1⟩
  go_upto_region 4 with fail
  have K1 : Blk (w0.alloc (.cells #[.slice a1 (sK 0).i.length a2, .slice a3 (sK 0).o.length a4, .int .i64 (sK 0).ie, .int .i64 (sK 0).lost] 26)) w0.heap.size #[.slice a1 (sK 0).i.length a2, .slice a3 (sK 0).o.length a4, .int .i64 (sK 0).ie, .int .i64 (sK 0).lost] 26 := Blk.new _ _ _ _ rfl
  have S1 : Grew w0 (w0.alloc (.cells #[.slice a1 (sK 0).i.length a2, .slice a3 (sK 0).o.length a4, .int .i64 (sK 0).ie, .int .i64 (sK 0).lost] 26)) := (Grew.refl w0).alloc _
  have P1 := Lib.hid (H1.out.grew S1)
  have lo1 : w0.heap.size ≤ w0.heap.size := Nat.le_refl _
  clear H1
  generalize (w0.alloc (.cells #[.slice a1 (sK 0).i.length a2, .slice a3 (sK 0).o.length a4, .int .i64 (sK 0).ie, .int .i64 (sK 0).lost] 26)) = w1 at *
  generalize hB1 : w0.heap.size = B1 at *
  have G1 : Grew W w1 := g1.trans S1
  have hWB : W.heap.size ≤ B1 := by rw [← hB1]; exact g1.size
  clear lo1 S1 hB1 g1
  go_upto_region 6 with fail
  go_loopw [5] (fun i wr => ∃ k : Nat, k ≤ n ∧ i = .int .i64 k ∧ ∃ a1 a2 a3 a4, Hid (Blk wr B1 #[.slice a1 (sK k).i.length a2, .slice a3 (sK k).o.length a4, .int .i64 (sK k).ie, .int .i64 (sK k).lost] 26) ∧ Hid (Ua wr (uaV (sK k) a1 a2 a3 a4) (sK k)) ∧ Grew W wr) (fun i _ => n - (intOf i).toNat)
  case atStart => exact ⟨0, Nat.zero_le _, rfl, a1, a2, a3, a4, Lib.hid K1, Lib.hid P1.out.ua, G1⟩
  case round =>
    clear K1 P1 G1
    obtain ⟨k, hk, rfl, p1, p2, p3, p4, KB, PB, G1⟩ := hrel
    by_cases hlt' : k < n
    · have hlt'' : (k : Int) < (n : Nat) := by omega
      have hkm : k < m := by omega
      have hne : xs ≠ [] := by
        rintro rfl
        have := HM.out
        simp at this
        omega
      obtain ⟨av', cv', ev, _, hav⟩ := HV.out.shape
      simp only [Value.slice.injEq] at ev
      obtain ⟨rfl, hml, rfl⟩ := ev
      clear hml
      obtain ⟨b, off, rfl, hat⟩ := hav hne
      clear hav
      have c0 := hat k (by rw [HM.out]; exact hkm)
      have hbl := hat.lt hne
      have hx := HV.out.ok.getD k
      have hL := RL.out k hlt'
      generalize xs.getD k 0 = x at *
      have HL := Lib.hid hL
      have C0 := Lib.hid c0
      clear hL c0 hat
      have kb := KB.out
      have y0 := kb.cell 0
      have y1 := kb.cell 1
      have y2 := kb.cell 2
      have y3 := kb.cell 3
      go_upto_region 8 with fail
      go_wp2_with fail
      refine Calls.mono (HL.out _ _ PB.out) ?_
      rintro e w2 ⟨b1, b2, b3, b4, rfl, H3, g2⟩
      go_upto_region 9 with fail
      clear y0 y1 y2 y3
      have K3 : Blk (w2.alloc (.cells #[.slice b1 (sK (k + 1)).i.length b2, .slice b3 (sK (k + 1)).o.length b4, .int .i64 (sK (k + 1)).ie, .int .i64 (sK (k + 1)).lost] 26)) w2.heap.size #[.slice b1 (sK (k + 1)).i.length b2, .slice b3 (sK (k + 1)).o.length b4, .int .i64 (sK (k + 1)).ie, .int .i64 (sK (k + 1)).lost] 26 := Blk.new _ _ _ _ rfl
      have S3 : Grew w2 (w2.alloc (.cells #[.slice b1 (sK (k + 1)).i.length b2, .slice b3 (sK (k + 1)).o.length b4, .int .i64 (sK (k + 1)).ie, .int .i64 (sK (k + 1)).lost] 26)) := (Grew.refl w2).alloc _
      have P3 := Lib.hid (H3.out.grew S3)
      have lo3 : w2.heap.size ≤ w2.heap.size := Nat.le_refl _
      clear H3
      generalize (w2.alloc (.cells #[.slice b1 (sK (k + 1)).i.length b2, .slice b3 (sK (k + 1)).o.length b4, .int .i64 (sK (k + 1)).ie, .int .i64 (sK (k + 1)).lost] 26)) = w3 at *
      generalize hB3 : w2.heap.size = B3 at *
      have T3 := g2.trans S3
      have kb3 := kb.grew T3
      have G3 := G1.trans T3
      have c0 : w3.cell? ⟨b, off + k, none⟩ = some (.int .u8 x) := by rw [(gcell G3).1 b _ hbl]; exact C0.out
      have hBr := kb.lt
      clear kb KB PB S3 lo3
      have hx' : IntKind.u64.wrap x = x := IntWalk.u64_in x (by omega)
      go_upto_region 11 with fail
      have y0 := K3.cell 0
      have y1 := K3.cell 1
      have y2 := K3.cell 2
      have y3 := K3.cell 3
      have z0 := kb3.cell 0
      have z1 := kb3.cell 1
      have z2 := kb3.cell 2
      have z3 := kb3.cell 3
      have f0 := kb3.free 0
      have f1 := kb3.free 1
      have f2 := kb3.free 2
      have f3 := kb3.free 3
      go_upto_region 7 with fail
      clear y0 y1 y2 y3 z0 z1 z2 z3 f0 f1 f2 f3
      have kb4 := ((((kb3.set (o := 0) (.slice b1 (sK (k + 1)).i.length b2)).set (o := 1) (.slice b3 (sK (k + 1)).o.length b4)).set (o := 2) (.int .i64 (sK (k + 1)).ie)).set (o := 3) (.int .i64 (sK (k + 1)).lost))
      have P4 := ((((P3.out.set (c := B1) hBr (o := 0) (.slice b1 (sK (k + 1)).i.length b2)).set (c := B1) hBr (o := 1) (.slice b3 (sK (k + 1)).o.length b4)).set (c := B1) hBr (o := 2) (.int .i64 (sK (k + 1)).ie)).set (c := B1) hBr (o := 3) (.int .i64 (sK (k + 1)).lost))
      have G4 := ((((G3.setCell (b := B1) (o := 0) hWB (.slice b1 (sK (k + 1)).i.length b2)).setCell (b := B1) (o := 1) hWB (.slice b3 (sK (k + 1)).o.length b4)).setCell (b := B1) (o := 2) hWB (.int .i64 (sK (k + 1)).ie)).setCell (b := B1) (o := 3) hWB (.int .i64 (sK (k + 1)).lost))
      generalize ((((w3.setCell ⟨B1, 0, none⟩ (.slice b1 (sK (k + 1)).i.length b2)).setCell ⟨B1, 1, none⟩ (.slice b3 (sK (k + 1)).o.length b4)).setCell ⟨B1, 2, none⟩ (.int .i64 (sK (k + 1)).ie)).setCell ⟨B1, 3, none⟩ (.int .i64 (sK (k + 1)).lost)) = w4 at *
      replace kb4 : Blk w4 B1 #[.slice b1 (sK (k + 1)).i.length b2, .slice b3 (sK (k + 1)).o.length b4, .int .i64 (sK (k + 1)).ie, .int .i64 (sK (k + 1)).lost] 26 := kb4
      go_wp2_with fail
      go_roundw
      case rel => exact ⟨k + 1, by omega, by go_num, b1, b2, b3, b4, Lib.hid kb4, Lib.hid P4.ua, G4⟩
      case measure => simp [intOf]; omega
    · obtain rfl : k = n := by omega
      have hnl : ¬ ((k : Int) < (k : Nat)) := by omega
      have kb := KB.out
      have y0 := kb.cell 0
      have y1 := kb.cell 1
      have y2 := kb.cell 2
      have y3 := kb.cell 3
      go_upto_region 12 with fail
      go_wp2_with fail
      refine Calls.mono (RE.out _ _ PB.out) ?_
      rintro e w2 ⟨b1, b2, b3, b4, rfl, H3, g2⟩
      go_upto_region 13 with fail
      clear y0 y1 y2 y3
      have K3 : Blk (w2.alloc (.cells #[.slice b1 (sK k).i.length b2, .slice b3 (sK k).o.length b4, .int .i64 (sK k).ie, .int .i64 (sK k).lost] 26)) w2.heap.size #[.slice b1 (sK k).i.length b2, .slice b3 (sK k).o.length b4, .int .i64 (sK k).ie, .int .i64 (sK k).lost] 26 := Blk.new _ _ _ _ rfl
      have S3 : Grew w2 (w2.alloc (.cells #[.slice b1 (sK k).i.length b2, .slice b3 (sK k).o.length b4, .int .i64 (sK k).ie, .int .i64 (sK k).lost] 26)) := (Grew.refl w2).alloc _
      have P3 := Lib.hid (H3.out.grew S3)
      have lo3 : w2.heap.size ≤ w2.heap.size := Nat.le_refl _
      clear H3
      generalize (w2.alloc (.cells #[.slice b1 (sK k).i.length b2, .slice b3 (sK k).o.length b4, .int .i64 (sK k).ie, .int .i64 (sK k).lost] 26)) = w3 at *
      generalize hB3 : w2.heap.size = B3 at *
      have T3 := g2.trans S3
      have kb3 := kb.grew T3
      have PB3 := Lib.hid (PB.out.grew T3)
      have G3 := G1.trans T3
      clear kb KB PB S3 lo3
      have hlo := HLO.out k
      have hi := HIN.out
      have y0 := K3.cell 0
      have y1 := K3.cell 1
      have y2 := K3.cell 2
      have y3 := K3.cell 3
      have z0 := kb3.cell 0
      have z1 := kb3.cell 1
      have z2 := kb3.cell 2
      have z3 := kb3.cell 3
      rw [hlo] at y3 z3
      have hll : (lost == lost) = true := by simp
      have P3' := P3.out.ua
      have P4' := PB3.out
      simp only [uaV, hi, hlo] at P3' P4'
      replace P3' := Lib.hid P3'
      replace P4' := Lib.hid P4'
      go_wp2_with fail
      refine Calls.mono (Same_c P3'.out P4'.out) ?_
      rintro e w5 ⟨rfl, g5⟩
      go_wp2_with fail
      refine (heads_c (G3.trans g5)).mono ?_
      rintro e w6 ⟨rfl, g6⟩
      go_wp2_with fail
      go_ret
      exact ⟨rfl, g6⟩

theorem walk (v : Value) (xs : List Int) (W : World) (hV : Buf W v xs) :
    Calls Try.prog 4 #[v] W fun e w' => e = .returned (.bool true) ∧ Below W.heap.size W w' := by
  obtain ⟨a, c, rfl, hc, _⟩ := hV.shape
  by_cases hn : (1000 : Int) < (xs.length : Nat)
  · exact walk_far _ _ _ _ rfl W hn
  · have hf : fitN hU0.i.length xs.length 16 = min xs.length 16 := rfl
    have hd : ∀ k, ((xs.take (min xs.length 16)).drop k).length ≤ 16 := fun k => by rw [List.length_drop, List.length_take]; omega
    refine walk_near xs.length (min xs.length 16) a c xs rfl (fun k => ⟨(xs.take (min xs.length 16)).drop k, [], 0, (xs.length : Int) - (min xs.length 16 : Nat)⟩) ((xs.length : Int) - (min xs.length 16 : Nat)) W hV hn (Nat.min_le_left _ _) (fun ts t w' => ?_) (IntWalk.i64_in _ (by omega)) (fun _ => rfl) ?_ ?_ ?_ ?_
    · rw [run_min_int2]
      congr 2
      split <;> omega
    · show ((xs.take (min xs.length 16)).drop (min xs.length 16)).length = 0
      rw [List.length_drop, List.length_take]; omega
    · intro w v u hv hu
      refine type_a (s := hU0) (by decide) (by decide) (by omega) ?_ w v u hv hu
      unfold tyS
      rw [hf]
      show (⟨[] ++ _, [], 0, if (0 : Int) < 2147483648 then min (0 + ((xs.length : Int) - (min xs.length 16 : Nat))) 2147483648 else 0⟩ : US) = _
      rw [if_pos (by decide), Int.zero_add, List.nil_append, List.drop_zero, Int.min_eq_left (by omega)]
    · intro k hk w v hv
      have hkl : k < (xs.take (min xs.length 16)).length := by rw [List.length_take]; omega
      refine load_a (Nat.le_trans (hd k) (by decide)) (by simp) ?_ ?_ rfl w v hv
      · show ((xs.take (min xs.length 16)).drop k).getD 0 0 = xs.getD k 0
        simp only [List.getD_eq_getElem?_getD, List.getElem?_drop, Nat.add_zero]
        rw [List.getElem?_take_of_lt hk]
      · show (⟨((xs.take (min xs.length 16)).drop k).drop 1, [], 0, _⟩ : US) = _
        rw [List.drop_drop]
    · intro w v hv
      have he : (xs.take (min xs.length 16)).drop (min xs.length 16) = [] := List.drop_of_length_le (by rw [List.length_take]; omega)
      refine load_a (Nat.le_trans (hd (min xs.length 16)) (by decide)) (by simp) ?_ ?_ rfl w v hv
      · show ((xs.take (min xs.length 16)).drop (min xs.length 16)).getD 0 0 = 0
        rw [he]; rfl
      · show (⟨((xs.take (min xs.length 16)).drop (min xs.length 16)).drop 1, [], 0, _⟩ : US) = _
        rw [he]; rfl
set_option maxRecDepth 100000 in
theorem lifted (os : Os) (started : os.Started) (H : Type) (enc : TypeId × Value → H) :
    ReturnsInHanded {} Try.checked os 4 .any (Rows.uartOrderSpec.pre6 enc Try.prog Try.f4 Rows.uartOrderRow.domain false) (Rows.uartOrderSpec.post enc Try.prog Try.f4 false true false false) := by
  refine returnsInHanded_of_change (C := Try.checked) own started (by kernel_rfl) Try.func4
    (ChangeSpec.witness6 (enc := enc) (C := Try.checked) false ⟨#[], #[.slice none 0 0], []⟩ 8 (by kernel_rfl) (by kernel_rfl) (by kernel_rfl) (by kernel_rfl)) ?_
  intro W base args ds gs before hval0 hW _ _
  have hval : ∀ (j : Nat) t v, Try.f4.params[j]? = some t → args[j]? = some v → Value.okWide Try.prog W .any base t v := hval0
  have hW' := hW
  obtain ⟨p, q, hA0, hV, rfl, hfz, hnd⟩ := hW
  have hA : DataW.TrodAll enc Try.prog W 0 (fun _ => true) true Try.f4.params.toList args.toList ds p := hA0
  rw [Try.params4] at hA hval
  obtain ⟨v0, vs0, d0, ds0, p0, q0, hargs, rfl, rfl, h0, r'0⟩ := trodAll_cons hA
  obtain ⟨rfl, rfl, rfl⟩ := trodAll_nil r'0
  obtain rfl : args = #[v0] := by cases args; simp_all
  obtain ⟨x0, k0⟩ := open_buf Try.underlying24 Try.underlying5 (by kernel_rfl) (hval 0 24 v0 rfl rfl) h0
  refine (walk v0 x0 W k0).mono fun e W' ⟨he, hb⟩ => ?_
  subst he
  exact ⟨_, rfl, law_post hW' rfl rfl laid (by kernel_rfl) rfl Try.underlying4 hb⟩

theorem over : Rows.uartOrderRow.holds Try.pinned (OpenSpec.ofChange Rows.uartOrderSpec) :=
  OpenClaim.holds_of_wide 4 Try.f4 rfl rfl rfl rfl rfl rfl rfl ⟨rfl, rfl, rfl, rfl, rfl⟩ rfl rfl rfl rfl rfl (by kernel_rfl) Try.func4 (by kernel_rfl)
    (of_decide_eq_true (by kernel_rfl)) (by unfold Func.isWrapper; first | (rw [if_pos (by decide +kernel)]; kernel_rfl) | (rw [if_neg (by decide +kernel)]; exact ⟨rfl, rfl⟩))
    (fun os started H enc _ => lifted os started H enc)

theorem proved : Rows.UartOrderSaid := over
#print axioms proved
end Go.Proofs.Ytegncliegmknaaa.uartOrder
