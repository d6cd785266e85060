/-
  The statement that what was written is read, and that every other byte is as it was. For every memory, address, bytes, place elsewhere. Conditions: none.
-/
import Derived.Test.YtjefbnnocdaloaaRows
import Derived.Test.YtjefbnnocdaloaaRamH
import Derived.Test.YtjefbnnocdaloaaLaw
import Derived.Deep.QuietTactic
import Derived.BigQuiet
import Derived.Deep.DeepCutAuto
set_option linter.unusedVariables false
set_option linter.unusedSimpArgs false
namespace Go.Proofs.Ytjefbnnocdaloaa.ramKeeps
open Go.ChangeShapes Go.WideShapes Go.ChangeAt Go.RowKit

/-! ### What a fill leaves -/
theorem cut_lay_same {xs ys : List Int} {lo o : Nat} (h : lo + ys.length ≤ xs.length) (ho : o + 1 ≤ xs.length) (hd : o < lo ∨ lo + ys.length ≤ o) : cutL (lay xs lo ys) o (o + 1) = cutL xs o (o + 1) := by
  have hl := lay_length h
  apply List.ext_getElem?
  intro i
  simp only [cutL, show o + 1 - o = 1 by omega]
  by_cases hi : i < 1
  · rw [List.getElem?_take_of_lt hi, List.getElem?_take_of_lt hi, List.getElem?_drop, List.getElem?_drop, lay_get _ _ _ _ h]
    split
    · rfl
    · rw [if_neg (by omega)]
  · rw [List.getElem?_eq_none (by simp; omega), List.getElem?_eq_none (by simp; omega)]
theorem read_else {xs ys : List Int} {lo : Nat} (h : lo + ys.length ≤ xs.length) (o : Int) (_ho : 0 ≤ o) (hd : o < 2147483648 + (lo : Int) ∨ (ys.length : Int) ≤ o - (2147483648 + (lo : Int))) : readV (lay xs lo ys) o 1 = readV xs o 1 := by
  unfold readV
  congr 1
  have hl := lay_length h
  cases hi : insideV xs.length o 1
  · rw [bytesV_out hi, bytesV_out (by rw [hl]; exact hi)]
  · obtain ⟨p, k, rfl, hk, hp⟩ := insideV_no hi
    have hk1 : k = 1 := by omega
    have e1 := bytesV_in (xs := xs) (lo := p) (k := 1) (by omega)
    have e2 := bytesV_in (xs := lay xs lo ys) (lo := p) (k := 1) (by omega)
    rw [Int.natCast_one] at e1 e2
    rw [e2, e1, cut_lay_same h (by omega) (by omega)]
theorem cut_lay {xs ys : List Int} {lo : Nat} (h : lo + ys.length ≤ xs.length) : cutL (lay xs lo ys) lo (lo + ys.length) = ys := by
  have hl := lay_length h
  apply List.ext_getElem?
  intro i
  simp only [cutL, show lo + ys.length - lo = ys.length by omega]
  by_cases hi : i < ys.length
  · rw [List.getElem?_take_of_lt hi, List.getElem?_drop, lay_get _ _ _ _ h, if_neg (by omega), if_pos (by omega)]
    congr 1; omega
  · rw [List.getElem?_eq_none (by simp; omega), List.getElem?_eq_none (by omega)]

/-! ### The walks -/
theorem walk_big (a : Option Addr) (n c : Nat) (x o : Int) (v : Value) (hn : 70000 < n) (hm : n ≤ maxLen) (W : World) :
    Calls Try.prog 6 #[.agg #[.slice a n c], .int .u64 x, v, .int .u64 o] W fun e w' => e = .returned (.bool true) ∧ Below W.heap.size W w' := by
  unfold maxLen at hm
  have hn' : (70000 : Int) < (n : Int) := by omega
  clear hn
  go_enter Try.func6, Try.ntmps6
  go_wp2_with fail
  refine (heads_c _).mono ?_
  rintro e w6 ⟨rfl, g6⟩
  go_wp2_with fail
  go_ret
  exact ⟨rfl, ((Grew.refl W).alloc _).trans g6⟩

theorem walk_no (a a2 : Option Addr) (n c m c2 : Nat) (x o : Int) (xs : List Int) (hn : n ≤ 70000) (W : World) (hb : Buf W (.slice a n c) xs)
    (h1 : ∀ w, Grew W w → Calls Try.prog 16 #[.agg #[.slice a n c], .int .u64 x, .slice a2 m c2] w fun e w' => ∃ a' n' c', e = .returned (.tuple #[.agg #[.slice a' n' c'], .bool false]) ∧ Hid (Buf w' (.slice a' n' c') xs) ∧ Grew w w')
    (h2 : ∀ w, Grew W w → Calls Try.prog 19 #[.agg #[.slice a n c], .int .u64 x, .int .i64 m] w fun e w' => e = .returned (.bool false) ∧ Grew w w') :
    Calls Try.prog 6 #[.agg #[.slice a n c], .int .u64 x, .slice a2 m c2, .int .u64 o] W fun e w' => e = .returned (.bool true) ∧ Below W.heap.size W w' := by
  have H1 := Lib.hid h1
  have H2 := Lib.hid h2
  have HB := Lib.hid hb
  have hn' : (n : Int) ≤ 70000 := by omega
  clear h1 h2 hn hb
  go_enter Try.func6, Try.ntmps6
  go_upto_region 1 with fail
  have hA : Blk (W.alloc (.cells #[.slice a n c] 24)) W.heap.size #[.slice a n c] 24 := Blk.new W _ _ _ rfl
  have g0 : Grew W (W.alloc (.cells #[.slice a n c] 24)) := (Grew.refl W).alloc _
  generalize (W.alloc (.cells #[.slice a n c] 24)) = w0 at *
  have cA := hA.cell 0
  go_wp2_with fail
  refine (H1.out _ g0).mono ?_
  rintro e w1 ⟨a', n', c', rfl, hs, g1⟩
  have hA1 := hA.grew g1
  clear cA
  go_upto_region 4 with fail
  have hB2 : Blk (w1.alloc (.cells #[.slice a' n' c'] 24)) w1.heap.size #[.slice a' n' c'] 24 := Blk.new w1 _ _ _ rfl
  have hA2 : Blk (w1.alloc (.cells #[.slice a' n' c'] 24)) W.heap.size #[.slice a n c] 24 := hA1.alloc _
  have g02 : Grew W (w1.alloc (.cells #[.slice a' n' c'] 24)) := (g0.trans g1).alloc _
  have hs2 := Lib.hid (takes_box hs.out #[.slice a' n' c'] 24)
  generalize (w1.alloc (.cells #[.slice a' n' c'] 24)) = w2 at *
  generalize w1.heap.size = B at *
  have cA2 := hA2.cell 0
  have cB2 := hB2.cell 0
  go_wp2_with fail
  refine (same_b _ hs2.out (HB.out.grew g02) rfl).mono ?_
  rintro e w3 ⟨rfl, g3⟩
  have cA3 := (hA2.grew g3).cell 0
  clear cA2 cB2
  go_wp2_with fail
  refine (H2.out _ (g02.trans g3)).mono ?_
  rintro e w4 ⟨rfl, g4⟩
  go_wp2_with fail
  refine (heads_c _).mono ?_
  rintro e w6 ⟨rfl, g6⟩
  go_wp2_with fail
  go_ret
  exact ⟨rfl, ((g02.trans g3).trans g4).trans g6⟩

theorem walk_yes (a a2 : Option Addr) (n c m c2 : Nat) (x o y : Int) (b : Bool) (xs ys zs : List Int) (hn : n ≤ 70000) (hm : m ≤ 70000) (hx : 0 ≤ x ∧ x < 18446744073709551616) (ho : 0 ≤ o ∧ o < 18446744073709551616) (W : World) (hu : Buf W (.slice a2 m c2) ys)
    (h1 : ∀ w, Grew W w → Calls Try.prog 16 #[.agg #[.slice a n c], .int .u64 x, .slice a2 m c2] w fun e w' => ∃ a' c', e = .returned (.tuple #[.agg #[.slice a' n c'], .bool true]) ∧ Hid (Buf w' (.slice a' n c') zs) ∧ Grew w w')
    (h2 : ∀ w a' c', Grew W w → Buf w (.slice a' n c') zs → Calls Try.prog 9 #[.agg #[.slice a' n c'], .int .u64 x, .int .i64 m] w fun e w' => ∃ u, e = .returned (.tuple #[u, .bool true]) ∧ Hid (Buf w' u ys) ∧ Grew w w')
    (h3 : ∀ w a' c', Grew W w → Buf w (.slice a' n c') zs → (o < x ∨ (m : Int) ≤ o - x) → Calls Try.prog 8 #[.agg #[.slice a' n c'], .int .u64 o, .int .i64 1] w fun e w' => e = .returned (.tuple #[.int .u64 y, .bool b]) ∧ Grew w w')
    (h4 : ∀ w, Grew W w → Calls Try.prog 8 #[.agg #[.slice a n c], .int .u64 o, .int .i64 1] w fun e w' => e = .returned (.tuple #[.int .u64 y, .bool b]) ∧ Grew w w') :
    Calls Try.prog 6 #[.agg #[.slice a n c], .int .u64 x, .slice a2 m c2, .int .u64 o] W fun e w' => e = .returned (.bool true) ∧ Below W.heap.size W w' := by
  have H1 := Lib.hid h1
  have H2 := Lib.hid h2
  have H3 := Lib.hid h3
  have H4 := Lib.hid h4
  have HU := Lib.hid hu
  have hn' : (n : Int) ≤ 70000 := by omega
  have hm' : (m : Int) ≤ 70000 := by omega
  obtain ⟨hx0, hx1⟩ := hx
  obtain ⟨ho0, ho1⟩ := ho
  clear h1 h2 h3 h4 hn hm hu
  go_enter Try.func6, Try.ntmps6
  go_upto_region 1 with fail
  have hA : Blk (W.alloc (.cells #[.slice a n c] 24)) W.heap.size #[.slice a n c] 24 := Blk.new W _ _ _ rfl
  have g0 : Grew W (W.alloc (.cells #[.slice a n c] 24)) := (Grew.refl W).alloc _
  generalize (W.alloc (.cells #[.slice a n c] 24)) = w0 at *
  have cA := hA.cell 0
  go_wp2_with fail
  refine (H1.out _ g0).mono ?_
  rintro e w1 ⟨a', c', rfl, hs, g1⟩
  have hA1 := hA.grew g1
  clear cA
  go_upto_region 4 with fail
  have hB2 : Blk (w1.alloc (.cells #[.slice a' n c'] 24)) w1.heap.size #[.slice a' n c'] 24 := Blk.new w1 _ _ _ rfl
  have hA2 : Blk (w1.alloc (.cells #[.slice a' n c'] 24)) W.heap.size #[.slice a n c] 24 := hA1.alloc _
  have g02 : Grew W (w1.alloc (.cells #[.slice a' n c'] 24)) := (g0.trans g1).alloc _
  have hs2 := Lib.hid (takes_box hs.out #[.slice a' n c'] 24)
  generalize (w1.alloc (.cells #[.slice a' n c'] 24)) = w2 at *
  generalize w1.heap.size = B at *
  have cA2 := hA2.cell 0
  have cB2 := hB2.cell 0
  go_wp2_with fail
  refine (H2.out _ _ _ g02 hs2.out).mono ?_
  rintro e w3 ⟨u, rfl, hu3, g3⟩
  have g03 := g02.trans g3
  have cA3 := (hA2.grew g3).cell 0
  have cB3 := (hB2.grew g3).cell 0
  clear cA2 cB2
  go_wp2_with fail
  refine (same01_b _ hu3.out (HU.out.grew g03) rfl).mono ?_
  rintro e w4 ⟨rfl, rfl⟩
  go_upto_region 9 with fail
  by_cases hin : x ≤ o ∧ o - x < m
  · obtain ⟨i1, i2⟩ := hin
    go_wp2_with fail
    refine (heads_c _).mono ?_
    rintro e w6 ⟨rfl, g6⟩
    go_wp2_with fail
    go_ret
    exact ⟨rfl, g03.trans g6⟩
  · have hout : o < x ∨ (m : Int) ≤ o - x := by omega
    have HO := Lib.hid hout
    have e1 : ∀ p : Int, (p == p) = true := fun p => by simp
    have e2 : (b == b) = true := by cases b <;> rfl
    clear hin
    rcases hout with h | h
    · go_wp2_with fail
      refine (H3.out _ _ _ g03 (hs2.out.grew g3) HO.out).mono ?_
      rintro e w5 ⟨rfl, g5⟩
      have cA5 := ((hA2.grew g3).grew g5).cell 0
      go_wp2_with fail
      refine (H4.out _ (g03.trans g5)).mono ?_
      rintro e w6 ⟨rfl, g6⟩
      go_wp2_with fail
      refine (heads_c _).mono ?_
      rintro e w7 ⟨rfl, g7⟩
      go_wp2_with fail
      go_ret
      exact ⟨rfl, ((g03.trans g5).trans g6).trans g7⟩
    · have h' : x ≤ o := by omega
      go_wp2_with fail
      refine (H3.out _ _ _ g03 (hs2.out.grew g3) HO.out).mono ?_
      rintro e w5 ⟨rfl, g5⟩
      have cA5 := ((hA2.grew g3).grew g5).cell 0
      go_wp2_with fail
      refine (H4.out _ (g03.trans g5)).mono ?_
      rintro e w6 ⟨rfl, g6⟩
      go_wp2_with fail
      refine (heads_c _).mono ?_
      rintro e w7 ⟨rfl, g7⟩
      go_wp2_with fail
      go_ret
      exact ⟨rfl, ((g03.trans g5).trans g6).trans g7⟩

theorem walk (a : Option Addr) (n c : Nat) (xs : List Int) (x : Int) (hx : 0 ≤ x ∧ x < 18446744073709551616) (v : Value) (ys : List Int) (o : Int) (ho : 0 ≤ o ∧ o < 18446744073709551616) (W : World) (hb : Buf W (.slice a n c) xs) (hu : Buf W v ys) :
    Calls Try.prog 6 #[.agg #[.slice a n c], .int .u64 x, v, .int .u64 o] W fun e w' => e = .returned (.bool true) ∧ Below W.heap.size W w' := by
  obtain ⟨hn, _⟩ := hb.lenEq
  by_cases h7 : 70000 < n
  · exact walk_big a n c x o v h7 (by rw [hn]; exact hb.len) W
  have hl : xs.length ≤ 140737488355328 := by omega
  obtain ⟨a2, c2, rfl, _, _⟩ := hu.shape
  have hul := hu.len
  have hul' := hu.len
  unfold maxLen at hul
  have r1 := fun w (g : Grew W w) => fill_c x hx.1 hx.2 w (hb.grew g) (hu.grew g) hl
  cases hi : insideV xs.length x ys.length
  · refine walk_no a a2 n c ys.length c2 x o xs (by omega) W hb (fun w g => ?_) (fun w g => ?_)
    · refine (r1 w g).mono ?_
      rintro e w' ⟨gg, rfl, hr, gw⟩
      rw [show fillV xs x ys = xs by unfold fillV; rw [hi]; rfl] at hr
      exact ⟨_, _, _, by rw [hi], hr.buf hb.ok, gw⟩
    · have := inside_c a n c x ys.length (by rw [hn]; exact hb.len) hx.1 hx.2 (by omega) (by omega) w
      rw [hn, hi] at this
      rw [hn]
      exact this
  · obtain ⟨lo, k, rfl, hk, hlo⟩ := insideV_no hi
    obtain rfl : k = ys.length := by omega
    have hf : fillV xs (2147483648 + (lo : Int)) ys = lay xs lo ys := by
      unfold fillV; rw [hi, show (2147483648 + (lo : Int) - 2147483648).toNat = lo by omega]; rfl
    have hll := lay_length hlo
    have hok := hb.ok.lay hu.ok lo
    subst hn
    refine walk_yes a a2 xs.length c ys.length c2 _ o (readV xs o 1) (sizeV 1 && insideV xs.length o 1) xs ys (lay xs lo ys) (by omega) (by omega) hx ho W hu (fun w g => ?_) (fun w a' c' g hz => ?_) (fun w a' c' g hz hd => ?_) (fun w g => ?_)
    · refine (r1 w g).mono ?_
      rintro e w' ⟨gg, rfl, hr, gw⟩
      rw [hf] at hr
      exact ⟨_, _, by rw [hi], hr.buf hok, gw⟩
    · refine (bytes_c _ ys.length hx.1 hx.2 (by omega) (by omega) w hz (by omega)).mono ?_
      rintro e w' ⟨u, rfl, hu', gw⟩
      rw [bytesV_in (by omega), cut_lay hlo] at hu'
      exact ⟨u, by rw [hll, hi], hu', gw⟩
    · have := read_c o 1 ho.1 ho.2 (by omega) (by omega) w hz
      rw [read_else hlo o ho.1 (by omega), hll] at this
      exact this
    · exact read_c o 1 ho.1 ho.2 (by omega) (by omega) w (hb.grew g)
set_option maxRecDepth 100000 in
theorem lifted (os : Os) (started : os.Started) (H : Type) (enc : TypeId × Value → H) :
    ReturnsInHanded {} Try.checked os 6 .any (Rows.ramKeepsSpec.pre6 enc Try.prog Try.f6 Rows.ramKeepsRow.domain false) (Rows.ramKeepsSpec.post enc Try.prog Try.f6 false true false false) := by
  refine returnsInHanded_of_change (C := Try.checked) own started (by kernel_rfl) Try.func6
    (ChangeSpec.witness6 (enc := enc) (C := Try.checked) false ⟨#[], #[.agg #[.slice none 0 0], .int .u64 0, .slice none 0 0, .int .u64 0], []⟩ 8 (by kernel_rfl) (by kernel_rfl) (by kernel_rfl) (by kernel_rfl)) ?_
  intro W base args ds gs before hval0 hW _ _
  have hval : ∀ (j : Nat) t v, Try.f6.params[j]? = some t → args[j]? = some v → Value.okWide Try.prog W .any base t v := hval0
  have hW' := hW
  obtain ⟨p, q, hA0, hV, rfl, hfz, hnd⟩ := hW
  have hA : DataW.TrodAll enc Try.prog W 0 (fun _ => true) true Try.f6.params.toList args.toList ds p := hA0
  rw [Try.params6] at hA hval
  obtain ⟨v0, vs0, d0, ds0, p0, q0, hargs, rfl, rfl, h0, r'0⟩ := trodAll_cons hA
  obtain ⟨v1, vs1, d1, ds1, p1, q1, rfl, rfl, rfl, h1, r'1⟩ := trodAll_cons r'0
  obtain ⟨v2, vs2, d2, ds2, p2, q2, rfl, rfl, rfl, h2, r'2⟩ := trodAll_cons r'1
  obtain ⟨v3, vs3, d3, ds3, p3, q3, rfl, rfl, rfl, h3, r'3⟩ := trodAll_cons r'2
  obtain ⟨rfl, rfl, rfl⟩ := trodAll_nil r'3
  obtain rfl : args = #[v0, v1, v2, v3] := by cases args; simp_all
  obtain ⟨a0, n0, c0, x0, rfl, k0⟩ := open_ram (hval 0 24 v0 rfl rfl) h0
  obtain ⟨a1, rfl, rfl, rfl, w1⟩ := open_int Try.underlying25 (hval 1 25 v1 rfl rfl) h1
  obtain ⟨x2, k2⟩ := open_buf Try.underlying22 Try.underlying5 (by kernel_rfl) (hval 2 22 v2 rfl rfl) h2
  obtain ⟨a3, rfl, rfl, rfl, w3⟩ := open_int Try.underlying25 (hval 3 25 v3 rfl rfl) h3
  refine (walk a0 n0 c0 x0 a1 (wf_u64 w1) v2 x2 a3 (wf_u64 w3) W k0 k2).mono fun e W' ⟨he, hb⟩ => ?_
  subst he
  exact ⟨_, rfl, law_post hW' rfl rfl laid (by kernel_rfl) rfl Try.underlying4 hb⟩

theorem over : Rows.ramKeepsRow.holds Try.pinned (OpenSpec.ofChange Rows.ramKeepsSpec) :=
  OpenClaim.holds_of_wide 6 Try.f6 rfl rfl rfl rfl rfl rfl rfl ⟨rfl, rfl, rfl, rfl, rfl⟩ rfl rfl rfl rfl rfl (by kernel_rfl) Try.func6 (by kernel_rfl)
    (of_decide_eq_true (by kernel_rfl)) (by unfold Func.isWrapper; first | (rw [if_pos (by decide +kernel)]; kernel_rfl) | (rw [if_neg (by decide +kernel)]; exact ⟨rfl, rfl⟩))
    (fun os started H enc _ => lifted os started H enc)

theorem proved : Rows.RamKeepsSaid := over
#print axioms proved
end Go.Proofs.Ytjefbnnocdaloaa.ramKeeps
