/-
  The statement that a number is its bytes. For every memory, address, size. Conditions: none.
-/
import Derived.Test.YtjefbnnocdaloaaRows
import Derived.Test.YtjefbnnocdaloaaRamH
import Derived.Test.YtjefbnnocdaloaaLaw
import Derived.Deep.QuietTactic
import Derived.BigQuiet
import Derived.Deep.DeepCutAuto
set_option linter.unusedVariables false
set_option linter.unusedSimpArgs false
namespace Go.Proofs.Ytjefbnnocdaloaa.ramReads
open Go.ChangeShapes Go.WideShapes Go.ChangeAt Go.RowKit

/-! ### A number is its bytes -/
theorem byte_getTo (ys : List Int) (h : AreBytes ys) (n m i : Nat) (hi : i < m) : byteV (getTo ys n false m) i = ys.getD i 0 := by
  induction m with
  | zero => omega
  | succ m ih =>
    have hg := getTo_lt h n false m
    have hb := h.getD m
    have hp := pow_pos' (8 * m)
    have e : getTo ys n false (m + 1) = getTo ys n false m + ys.getD m 0 * 2 ^ (8 * m) := by simp [getTo, placeV]
    rw [e]
    unfold byteV at *
    by_cases he : i = m
    · subst he
      rw [Int.add_mul_ediv_right _ _ (Int.ne_of_gt hp), Int.ediv_eq_zero_of_lt hg.1 hg.2, Int.zero_add]
      exact Int.emod_eq_of_lt hb.1 hb.2
    · rw [← ih (by omega)]
      have hq := pow_pos' (8 * i)
      have e2 : (2 : Int) ^ (8 * m) = 2 ^ (8 * (m - i - 1)) * 256 * 2 ^ (8 * i) := by
        rw [show (256 : Int) = 2 ^ 8 by decide, ← Int.pow_add, ← Int.pow_add]; congr 1; omega
      rw [e2, ← Int.mul_assoc, Int.add_mul_ediv_right _ _ (Int.ne_of_gt hq), ← Int.mul_assoc, Int.add_mul_emod_self_right]
theorem putL_getV {ys : List Int} (h : AreBytes ys) (h8 : ys.length ≤ 8) : putL (getV ys false) ys.length false = ys := by
  apply List.ext_getElem?
  intro i
  by_cases hi : i < ys.length
  · rw [show (putL (getV ys false) ys.length false)[i]? = some (byteV (getV ys false) i) by simp [putL, placeV, hi]]
    unfold getV
    rw [Nat.min_eq_left h8, byte_getTo ys h _ _ i hi, List.getD_eq_getElem?_getD, List.getElem?_eq_getElem hi]; rfl
  · rw [List.getElem?_eq_none (by rw [putL_length]; omega), List.getElem?_eq_none (by omega)]
theorem lay_self {xs : List Int} {lo hi : Nat} (h1 : lo ≤ hi) (h2 : hi ≤ xs.length) : lay xs lo (cutL xs lo hi) = xs := by
  have hl := cutL_length h1 h2
  apply List.ext_getElem?
  intro i
  rw [lay_get _ _ _ _ (by omega), hl]
  split
  · rfl
  · split
    · rename_i h3 h4
      simp only [cutL]
      rw [List.getElem?_take_of_lt (by omega), List.getElem?_drop]
      congr 1; omega
    · rfl

/-! ### The walks -/
theorem walk_big (a : Option Addr) (n c : Nat) (x s : Int) (hn : 70000 < n) (hm : n ≤ maxLen) (W : World) :
    Calls Try.prog 3 #[.agg #[.slice a n c], .int .u64 x, .int .i64 s] W fun e w' => e = .returned (.bool true) ∧ Below W.heap.size W w' := by
  unfold maxLen at hm
  have hn' : (70000 : Int) < (n : Int) := by omega
  clear hn
  go_enter Try.func3, Try.ntmps3
  go_wp2_with fail
  refine (heads_c _).mono ?_
  rintro e w6 ⟨rfl, g6⟩
  go_wp2_with fail
  go_ret
  exact ⟨rfl, ((Grew.refl W).alloc _).trans g6⟩

theorem walk_no (a : Option Addr) (n c : Nat) (x s : Int) (b : Bool) (hn : n ≤ 70000) (hb : b = false ∨ (b = true ∧ s ≠ 1 ∧ s ≠ 2 ∧ s ≠ 4 ∧ s ≠ 8)) (W : World)
    (h1 : ∀ w, Grew W w → Calls Try.prog 8 #[.agg #[.slice a n c], .int .u64 x, .int .i64 s] w fun e w' => e = .returned (.tuple #[.int .u64 0, .bool false]) ∧ Grew w w')
    (h2 : ∀ w, Grew W w → Calls Try.prog 9 #[.agg #[.slice a n c], .int .u64 x, .int .i64 s] w fun e w' => ∃ u, e = .returned (.tuple #[u, .bool b]) ∧ Grew w w') :
    Calls Try.prog 3 #[.agg #[.slice a n c], .int .u64 x, .int .i64 s] W fun e w' => e = .returned (.bool true) ∧ Below W.heap.size W w' := by
  have H1 := Lib.hid h1
  have H2 := Lib.hid h2
  have hn' : (n : Int) ≤ 70000 := by omega
  clear h1 h2 hn
  rcases hb with rfl | ⟨rfl, n1, n2, n4, n8⟩
  all_goals
    (try have e1 : (s == 1) = false := by simpa using n1)
    (try have e2 : (s == 2) = false := by simpa using n2)
    (try have e4 : (s == 4) = false := by simpa using n4)
    (try have e8 : (s == 8) = false := by simpa using n8)
    (try have d1 : (s != 1) = true := by simpa using n1)
    (try have d2 : (s != 2) = true := by simpa using n2)
    (try have d4 : (s != 4) = true := by simpa using n4)
    (try have d8 : (s != 8) = true := by simpa using n8)
    go_enter Try.func3, Try.ntmps3
    go_upto_region 1 with fail
    have hA : Blk (W.alloc (.cells #[.slice a n c] 24)) W.heap.size #[.slice a n c] 24 := Blk.new W _ _ _ rfl
    have g0 : Grew W (W.alloc (.cells #[.slice a n c] 24)) := (Grew.refl W).alloc _
    generalize (W.alloc (.cells #[.slice a n c] 24)) = w0 at *
    have cA := hA.cell 0
    go_wp2_with fail
    refine (H1.out _ g0).mono ?_
    rintro e w1 ⟨rfl, g1⟩
    have cA1 := (hA.grew g1).cell 0
    clear cA
    go_wp2_with fail
    refine (H2.out _ (g0.trans g1)).mono ?_
    rintro e w2 ⟨u, rfl, g2⟩
    go_wp2_with fail
    refine (heads_c _).mono ?_
    rintro e w6 ⟨rfl, g6⟩
    go_wp2_with fail
    go_ret
    exact ⟨rfl, ((g0.trans g1).trans g2).trans g6⟩

theorem walk_yes (a : Option Addr) (n c : Nat) (x y : Int) (k : Nat) (xs zs : List Int) (hn : n ≤ 70000) (hk : k ≤ 8) (W : World) (hb : Buf W (.slice a n c) xs) (hz : zs.length = k) (hy : getV zs false = y)
    (h1 : ∀ w, Grew W w → Calls Try.prog 8 #[.agg #[.slice a n c], .int .u64 x, .int .i64 k] w fun e w' => e = .returned (.tuple #[.int .u64 y, .bool true]) ∧ Grew w w')
    (h2 : ∀ w, Grew W w → Calls Try.prog 9 #[.agg #[.slice a n c], .int .u64 x, .int .i64 k] w fun e w' => ∃ u, e = .returned (.tuple #[u, .bool true]) ∧ Hid (Buf w' u zs) ∧ Grew w w')
    (h3 : ∀ w, Grew W w → Calls Try.prog 10 #[.agg #[.slice a n c], .int .u64 x, .int .i64 k, .int .u64 y] w fun e w' => ∃ a' n' c', e = .returned (.tuple #[.agg #[.slice a' n' c'], .bool true]) ∧ Hid (Buf w' (.slice a' n' c') xs) ∧ Grew w w') :
    Calls Try.prog 3 #[.agg #[.slice a n c], .int .u64 x, .int .i64 k] W fun e w' => e = .returned (.bool true) ∧ Below W.heap.size W w' := by
  have H1 := Lib.hid h1
  have H2 := Lib.hid h2
  have H3 := Lib.hid h3
  have HB := Lib.hid hb
  have HZ := Lib.hid hz
  have HY := Lib.hid hy
  have hn' : (n : Int) ≤ 70000 := by omega
  clear h1 h2 h3 hn hb hz hy
  go_enter Try.func3, Try.ntmps3
  go_upto_region 1 with fail
  have hA : Blk (W.alloc (.cells #[.slice a n c] 24)) W.heap.size #[.slice a n c] 24 := Blk.new W _ _ _ rfl
  have g0 : Grew W (W.alloc (.cells #[.slice a n c] 24)) := (Grew.refl W).alloc _
  generalize (W.alloc (.cells #[.slice a n c] 24)) = w0 at *
  have cA := hA.cell 0
  go_wp2_with fail
  refine (H1.out _ g0).mono ?_
  rintro e w1 ⟨rfl, g1⟩
  have g01 := g0.trans g1
  have cA1 := (hA.grew g1).cell 0
  clear cA
  go_wp2_with fail
  refine (H2.out _ g01).mono ?_
  rintro e w2 ⟨u, rfl, hu, g2⟩
  obtain ⟨ua, un, uc, ue⟩ : ∃ a n c, u = .slice a n c := (let ⟨a, c, e, _⟩ := hu.out.shape; ⟨a, _, c, e⟩)
  subst ue
  obtain rfl : un = k := by rw [hu.out.lenEq.1, HZ.out]
  have g02 := g01.trans g2
  have hA2 := hA.grew (g1.trans g2)
  have cA2 := hA2.cell 0
  clear cA1
  go_wp2_with fail
  refine (H3.out _ g02).mono ?_
  rintro e w3 ⟨a', n', c', rfl, hs, g3⟩
  have hA3 := hA2.grew g3
  clear cA2
  go_upto_region 8 with fail
  have hB4 : Blk (w3.alloc (.cells #[.slice a' n' c'] 24)) w3.heap.size #[.slice a' n' c'] 24 := Blk.new w3 _ _ _ rfl
  have hA4 : Blk (w3.alloc (.cells #[.slice a' n' c'] 24)) W.heap.size #[.slice a n c] 24 := hA3.alloc _
  have g04 : Grew W (w3.alloc (.cells #[.slice a' n' c'] 24)) := (g02.trans g3).alloc _
  have hs4 := Lib.hid (takes_box hs.out #[.slice a' n' c'] 24)
  have hu4 := Lib.hid (takes_box (hu.out.grew g3) #[.slice a' n' c'] 24)
  generalize (w3.alloc (.cells #[.slice a' n' c'] 24)) = w4 at *
  generalize w3.heap.size = B at *
  have cA4 := hA4.cell 0
  have cB4 := hB4.cell 0
  go_wp2_with fail
  refine (refGet_c false hu4.out.ok (by rw [HZ.out]; omega) _ hu4.out.bytes).mono ?_
  rintro e w5 ⟨rfl, h5⟩
  obtain rfl := h5.symm
  rw [HY.out]
  go_wp2_with fail
  refine (same_b _ hs4.out (HB.out.grew g04) rfl).mono ?_
  rintro e w5 ⟨rfl, g5⟩
  go_wp2_with fail
  refine (heads_c _).mono ?_
  rintro e w6 ⟨rfl, g6⟩
  go_wp2_with fail
  go_ret
  exact ⟨rfl, (g04.trans g5).trans g6⟩

theorem walk (a : Option Addr) (n c : Nat) (xs : List Int) (x : Int) (hx : 0 ≤ x ∧ x < 18446744073709551616) (s : Int) (hs : -9223372036854775808 ≤ s ∧ s ≤ 9223372036854775807) (W : World) (hb : Buf W (.slice a n c) xs) :
    Calls Try.prog 3 #[.agg #[.slice a n c], .int .u64 x, .int .i64 s] W fun e w' => e = .returned (.bool true) ∧ Below W.heap.size W w' := by
  obtain ⟨hn, _⟩ := hb.lenEq
  by_cases h7 : 70000 < n
  · exact walk_big a n c x s h7 (by rw [hn]; exact hb.len) W
  have hl : xs.length ≤ 140737488355328 := by omega
  have r1 := fun w (g : Grew W w) => read_c x s hx.1 hx.2 hs.1 hs.2 w (hb.grew g)
  have r2 := fun w (g : Grew W w) => bytes_c x s hx.1 hx.2 hs.1 hs.2 w (hb.grew g) hl
  cases hi : insideV xs.length x s
  · refine walk_no a n c x s false (by omega) (.inl rfl) W (fun w g => ?_) (fun w g => ?_)
    · have := r1 w g
      rw [hi, Bool.and_false, show readV xs x s = 0 by unfold readV; rw [bytesV_out hi]; split <;> simp [getV_nil]] at this
      exact this
    · refine (r2 w g).mono ?_
      rintro e w' ⟨u, rfl, _, gw⟩
      exact ⟨u, by rw [hi], gw⟩
  cases hz : sizeV s
  · refine walk_no a n c x s true (by omega) (.inr ⟨rfl, ?_⟩) W (fun w g => ?_) (fun w g => ?_)
    · unfold sizeV at hz
      have := of_decide_eq_false hz
      omega
    · have := r1 w g
      rw [hz, Bool.false_and, show readV xs x s = 0 by unfold readV; rw [hz]; rfl] at this
      exact this
    · refine (r2 w g).mono ?_
      rintro e w' ⟨u, rfl, _, gw⟩
      exact ⟨u, by rw [hi], gw⟩
  · obtain ⟨k, rfl, hk8, _⟩ := size_nat hz
    obtain ⟨lo, k', rfl, hk', hlo⟩ := insideV_no hi
    obtain rfl : k' = k := by omega
    have hbv : bytesV xs (2147483648 + (lo : Int)) k' = cutL xs lo (lo + k') := bytesV_in hlo
    have hcl : (cutL xs lo (lo + k')).length = k' := by rw [cutL_length (by omega) hlo]; omega
    have hrv : readV xs (2147483648 + (lo : Int)) k' = getV (cutL xs lo (lo + k')) false := by unfold readV; rw [hz, hbv]; rfl
    have hok := hb.ok.cut lo (lo + k')
    have hlt := getV_lt hok false
    refine walk_yes a n c _ (getV (cutL xs lo (lo + k')) false) k' xs (cutL xs lo (lo + k')) (by omega) hk8 W hb hcl rfl (fun w g => ?_) (fun w g => ?_) (fun w g => ?_)
    · have := r1 w g
      rw [hz, hi, hrv] at this
      exact this
    · refine (r2 w g).mono ?_
      rintro e w' ⟨u, rfl, hu, gw⟩
      rw [hbv] at hu
      exact ⟨u, by rw [hi], hu, gw⟩
    · refine (write_c _ k' _ hx.1 hx.2 hlt.1 hlt.2 w (hb.grew g) hl).mono ?_
      rintro e w' ⟨gg, rfl, hr, gw⟩
      refine ⟨_, _, _, by rw [hz, hi]; rfl, ?_, gw⟩
      have hbuf := hr.buf (writeV_ok _ _ _ hb.ok)
      have e : writeV xs (2147483648 + (lo : Int)) k' (getV (cutL xs lo (lo + k')) false) = xs := by
        unfold writeV
        rw [hz, Int.toNat_natCast]
        have hp := putL_getV hok (by omega)
        rw [hcl] at hp
        rw [hp]
        unfold fillV
        rw [hcl, hi, show (2147483648 + (lo : Int) - 2147483648).toNat = lo by omega]
        simp only [if_true]
        exact lay_self (by omega) hlo
      rw [e] at hbuf
      exact hbuf
set_option maxRecDepth 100000 in
theorem lifted (os : Os) (started : os.Started) (H : Type) (enc : TypeId × Value → H) :
    ReturnsInHanded {} Try.checked os 3 .any (Rows.ramReadsSpec.pre6 enc Try.prog Try.f3 Rows.ramReadsRow.domain false) (Rows.ramReadsSpec.post enc Try.prog Try.f3 false true false false) := by
  refine returnsInHanded_of_change (C := Try.checked) own started (by kernel_rfl) Try.func3
    (ChangeSpec.witness6 (enc := enc) (C := Try.checked) false ⟨#[], #[.agg #[.slice none 0 0], .int .u64 0, .int .i64 0], []⟩ 8 (by kernel_rfl) (by kernel_rfl) (by kernel_rfl) (by kernel_rfl)) ?_
  intro W base args ds gs before hval0 hW _ _
  have hval : ∀ (j : Nat) t v, Try.f3.params[j]? = some t → args[j]? = some v → Value.okWide Try.prog W .any base t v := hval0
  have hW' := hW
  obtain ⟨p, q, hA0, hV, rfl, hfz, hnd⟩ := hW
  have hA : DataW.TrodAll enc Try.prog W 0 (fun _ => true) true Try.f3.params.toList args.toList ds p := hA0
  rw [Try.params3] at hA hval
  obtain ⟨v0, vs0, d0, ds0, p0, q0, hargs, rfl, rfl, h0, r'0⟩ := trodAll_cons hA
  obtain ⟨v1, vs1, d1, ds1, p1, q1, rfl, rfl, rfl, h1, r'1⟩ := trodAll_cons r'0
  obtain ⟨v2, vs2, d2, ds2, p2, q2, rfl, rfl, rfl, h2, r'2⟩ := trodAll_cons r'1
  obtain ⟨rfl, rfl, rfl⟩ := trodAll_nil r'2
  obtain rfl : args = #[v0, v1, v2] := by cases args; simp_all
  obtain ⟨a0, n0, c0, x0, rfl, k0⟩ := open_ram (hval 0 24 v0 rfl rfl) h0
  obtain ⟨a1, rfl, rfl, rfl, w1⟩ := open_int Try.underlying25 (hval 1 25 v1 rfl rfl) h1
  obtain ⟨a2, rfl, rfl, rfl, w2⟩ := open_int Try.underlying3 (hval 2 3 v2 rfl rfl) h2
  refine (walk a0 n0 c0 x0 a1 (wf_u64 w1) a2 (wf_i64 w2) W k0).mono fun e W' ⟨he, hb⟩ => ?_
  subst he
  exact ⟨_, rfl, law_post hW' rfl rfl laid (by kernel_rfl) rfl Try.underlying4 hb⟩

theorem over : Rows.ramReadsRow.holds Try.pinned (OpenSpec.ofChange Rows.ramReadsSpec) :=
  OpenClaim.holds_of_wide 3 Try.f3 rfl rfl rfl rfl rfl rfl rfl ⟨rfl, rfl, rfl, rfl, rfl⟩ rfl rfl rfl rfl rfl (by kernel_rfl) Try.func3 (by kernel_rfl)
    (of_decide_eq_true (by kernel_rfl)) (by unfold Func.isWrapper; first | (rw [if_pos (by decide +kernel)]; kernel_rfl) | (rw [if_neg (by decide +kernel)]; exact ⟨rfl, rfl⟩))
    (fun os started H enc _ => lifted os started H enc)

theorem proved : Rows.RamReadsSaid := over
#print axioms proved
end Go.Proofs.Ytjefbnnocdaloaa.ramReads
