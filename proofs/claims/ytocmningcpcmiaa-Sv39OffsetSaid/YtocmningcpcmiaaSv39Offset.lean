/-
  The statement that two addresses of one page lead to one page, each to its own place in it. For every memory, registers, privilege, address, two places, kind. Conditions: none.
-/
import Derived.Test.YtocmningcpcmiaaRows
import Derived.Test.YtocmningcpcmiaaSvP
import Derived.Test.YtocmningcpcmiaaLaw
import Derived.Deep.QuietTactic
import Derived.BigQuiet
import Derived.Deep.DeepCutAuto
set_option linter.unusedVariables false
set_option linter.unusedSimpArgs false
namespace Go.Proofs.Ytocmningcpcmiaa.sv39Offset
open Go.ChangeShapes Go.WideShapes Go.ChangeAt Go.RowKit

theorem outs (P : Pages) {w : World} {v : Value} {xs : List Int} {t st p x k : Int} (h1 : 0 ≤ t ∧ t < 18446744073709551616) (h2 : 0 ≤ st ∧ st < 18446744073709551616) (h3 : 0 ≤ x ∧ x < 18446744073709551616) (hb : Buf w v xs) (hl : xs.length ≤ 140737488355328) (s : Sv) (hs : svV xs t st p x k = s) :
    Calls Try.prog 9 #[.agg #[v], .int .u64 t, .int .u64 st, .int .i64 p, .int .u64 x, .int .i64 k] w fun e w' => ∃ a n c, e = .returned (.tuple #[.int .u64 s.addr, .agg #[.slice a n c], .int .i64 s.cause, .bool s.ok]) ∧ Hid (Buf w' (.slice a n c) s.mem) ∧ Grew w w' :=
  P.at s hs h1.1 h1.2 h2.1 h2.2 h3.1 h3.2 hb hl

theorem walk_big (P : Pages) (a : Option Addr) (n c : Nat) (t st p x xx yy k : Int) (hn : 70000 < n ∨ (n ≤ 70000 ∧ (xx < 0 ∨ (0 ≤ xx ∧ 4095 < xx) ∨ (0 ≤ xx ∧ xx ≤ 4095 ∧ yy < 0) ∨ (0 ≤ xx ∧ xx ≤ 4095 ∧ 0 ≤ yy ∧ 4095 < yy)))) (hm : n ≤ maxLen) (W : World) :
    Calls Try.prog 6 #[.agg #[.slice a n c], .int .u64 t, .int .u64 st, .int .i64 p, .int .u64 x, .int .i64 xx, .int .i64 yy, .int .i64 k] W fun e w' => e = .returned (.bool true) ∧ Below W.heap.size W w' := by
  unfold maxLen at hm
  have hn' : (70000 : Int) < (n : Int) ∨ ((n : Int) ≤ 70000 ∧ (xx < 0 ∨ (0 ≤ xx ∧ 4095 < xx) ∨ (0 ≤ xx ∧ xx ≤ 4095 ∧ yy < 0) ∨ (0 ≤ xx ∧ xx ≤ 4095 ∧ 0 ≤ yy ∧ 4095 < yy))) := by omega
  clear hn
  rcases hn' with h1 | ⟨h1, h2 | ⟨h2, h3⟩ | ⟨h2, h3, h4⟩ | ⟨h2, h3, h4, h5⟩⟩
  all_goals
    go_enter Try.func6, Try.ntmps6
    go_wp2_with fail
    refine (heads_c P _).mono ?_
    rintro e w6 ⟨rfl, g6⟩
    go_wp2_with fail
    go_ret
    exact ⟨rfl, ((Grew.refl W).alloc _).trans g6⟩

set_option maxRecDepth 100000 in
set_option maxHeartbeats 4000000 in
theorem walk_with (P : Pages) (a : Option Addr) (n c : Nat) (t st p x xx yy k q z1 z2 d c1 c2 : Int) (b : Bool) (xs zs : List Int) (hn : n ≤ 70000) (hq0 : 0 ≤ q) (hq1 : q < 4503599627370496) (ha0 : 0 ≤ xx) (ha1 : xx ≤ 4095) (hb0 : 0 ≤ yy) (hb1 : yy ≤ 4095)
    (hqe : bits .andNot .u64 x 4095 = 4096 * q) (hz : b = true → z1 - xx = d ∧ z2 - yy = d ∧ z1 % 4096 = xx ∧ 0 ≤ d ∧ 0 ≤ z1 ∧ z1 < 18446744073709551616 ∧ 0 ≤ z2 ∧ z2 < 18446744073709551616) (W : World) (hb : Buf W (.slice a n c) xs)
    (r1 : ∀ w v, Grew W w → Buf w v xs → Calls Try.prog 9 #[.agg #[v], .int .u64 t, .int .u64 st, .int .i64 p, .int .u64 (4096 * q + xx), .int .i64 k] w fun e w' => ∃ a n c, e = .returned (.tuple #[.int .u64 z1, .agg #[.slice a n c], .int .i64 c1, .bool b]) ∧ Hid (Buf w' (.slice a n c) zs) ∧ Grew w w')
    (r2 : ∀ w v, Grew W w → Buf w v xs → Calls Try.prog 9 #[.agg #[v], .int .u64 t, .int .u64 st, .int .i64 p, .int .u64 (4096 * q + yy), .int .i64 k] w fun e w' => ∃ a n c, e = .returned (.tuple #[.int .u64 z2, .agg #[.slice a n c], .int .i64 c2, .bool b]) ∧ Hid (Buf w' (.slice a n c) zs) ∧ Grew w w') :
    Calls Try.prog 6 #[.agg #[.slice a n c], .int .u64 t, .int .u64 st, .int .i64 p, .int .u64 x, .int .i64 xx, .int .i64 yy, .int .i64 k] W fun e w' => e = .returned (.bool true) ∧ Below W.heap.size W w' := by
  have R1 := Lib.hid r1
  have R2 := Lib.hid r2
  have HB := Lib.hid hb
  have hn' : (n : Int) ≤ 70000 := by omega
  have b1 : 4096 * q + xx < 18446744073709551616 := by omega
  have b2 : 4096 * q + yy < 18446744073709551616 := by omega
  have HZ := Lib.hid hz
  clear r1 r2 hb hz
  go_enter Try.func6, Try.ntmps6
  go_upto_region 1 with fail
  have hA : Blk (W.alloc (.cells #[.slice a n c] 24)) W.heap.size #[.slice a n c] 24 := Blk.new W _ _ _ rfl
  have g0 : Grew W (W.alloc (.cells #[.slice a n c] 24)) := (Grew.refl W).alloc _
  generalize (W.alloc (.cells #[.slice a n c] 24)) = w0 at *
  have cA := (hA).cell 0
  go_wp2_with fail
  refine (R1.out _ _ g0 (HB.out.grew g0)).mono ?_
  rintro e w1 h1
  obtain ⟨aC, nC, cC, rfl, hC, g1⟩ := h1
  clear cA
  go_upto_region 5 with fail
  have bC : Blk (w1.alloc (.cells #[.slice aC nC cC] 24)) w1.heap.size #[.slice aC nC cC] 24 := Blk.new _ _ _ _ rfl
  have s2 : Grew w0 (w1.alloc (.cells #[.slice aC nC cC] 24)) := g1.alloc _
  have HC := Lib.hid (takes_box hC.out #[.slice aC nC cC] 24)
  generalize (w1.alloc (.cells #[.slice aC nC cC] 24)) = w2 at *
  generalize w1.heap.size = BC at *
  have cA := (hA.grew s2).cell 0
  go_wp2_with fail
  refine (R2.out _ _ (g0.trans s2) (HB.out.grew (g0.trans s2))).mono ?_
  rintro e w3 h3
  obtain ⟨aD, nD, cD, rfl, hD, g3⟩ := h3
  clear cA
  go_upto_region 6 with fail
  have bD : Blk (w3.alloc (.cells #[.slice aD nD cD] 24)) w3.heap.size #[.slice aD nD cD] 24 := Blk.new _ _ _ _ rfl
  have s4 : Grew w2 (w3.alloc (.cells #[.slice aD nD cD] 24)) := g3.alloc _
  have HD := Lib.hid (takes_box hD.out #[.slice aD nD cD] 24)
  generalize (w3.alloc (.cells #[.slice aD nD cD] 24)) = w4 at *
  generalize w3.heap.size = BD at *
  have cC := (bC.grew s4).cell 0
  have cD := bD.cell 0
  cases b
  · have e1 : (false == false) = true := rfl
    go_wp2_with fail
    refine (heads_c P _).mono ?_
    rintro e wh ⟨rfl, gh⟩
    go_wp2_with fail
    go_ret
    exact ⟨rfl, (g0.trans s2).trans (s4.trans gh)⟩
  · obtain ⟨y1, y2, y3, y4, y5, y6, y7, y8⟩ := HZ.out rfl
    have e0 : (d == d) = true := by simp
    have e2 : (xx == xx) = true := by simp
    go_wp2_with fail
    refine (same_b _ (HC.out.grew s4) HD.out rfl).mono ?_
    rintro e w5 ⟨rfl, g5⟩
    go_wp2_with fail
    refine (heads_c P _).mono ?_
    rintro e wh ⟨rfl, gh⟩
    go_wp2_with fail
    go_ret
    exact ⟨rfl, ((g0.trans s2).trans (s4.trans g5)).trans gh⟩

theorem andNot_page (x : Int) (hx : 0 ≤ x ∧ x < 18446744073709551616) : bits .andNot .u64 x 4095 = 4096 * (x / 4096) := by
  obtain ⟨X, rfl⟩ := Int.eq_ofNat_of_zero_le hx.1
  rw [show (4095 : Int) = ((4095 : Nat) : Int) from rfl, u64_andNot_nat X 4095 (by omega) (by omega)]
  have h : X &&& (18446744073709551615 - 4095) = 4096 * (X / 4096) := by
    rw [Nat.mul_comm, show (4096 : Nat) = 2 ^ 12 by decide, ← Nat.shiftRight_eq_div_pow, ← Nat.shiftLeft_eq]
    apply Nat.eq_of_testBit_eq
    intro i
    rw [Nat.testBit_and, Nat.testBit_shiftLeft, Nat.testBit_shiftRight]
    by_cases h1 : i < 12
    · have : (18446744073709551615 - 4095 : Nat).testBit i = false := by
        have : ∀ j : Fin 12, (18446744073709551615 - 4095 : Nat).testBit j = false := by decide +kernel
        exact this ⟨i, h1⟩
      simp [this, show ¬ 12 ≤ i by omega]
    · by_cases h2 : i < 64
      · have : (18446744073709551615 - 4095 : Nat).testBit i = true := by
          have : ∀ j : Fin 64, 12 ≤ j.val → (18446744073709551615 - 4095 : Nat).testBit j = true := by decide +kernel
          exact this ⟨i, h2⟩ (by simp; omega)
        simp [this, show 12 ≤ i by omega, show 12 + (i - 12) = i by omega]
      · have : X.testBit i = false := Nat.testBit_lt_two_pow (Nat.lt_of_lt_of_le (show X < 2 ^ 64 by omega) (Nat.pow_le_pow_right (by omega) (by omega)))
        simp [this, show 12 + (i - 12) = i by omega]
  first | (rw [h]; omega) | (simp only [h]; omega) | omega

theorem walk (a : Option Addr) (n c : Nat) (xs : List Int) (t : Int) (ht : 0 ≤ t ∧ t < 18446744073709551616) (st : Int) (hst : 0 ≤ st ∧ st < 18446744073709551616) (p : Int) (_hp : -9223372036854775808 ≤ p ∧ p ≤ 9223372036854775807) (x : Int) (hx : 0 ≤ x ∧ x < 18446744073709551616) (xx : Int) (_hxx : -9223372036854775808 ≤ xx ∧ xx ≤ 9223372036854775807) (yy : Int) (_hyy : -9223372036854775808 ≤ yy ∧ yy ≤ 9223372036854775807) (k : Int) (_hk : -9223372036854775808 ≤ k ∧ k ≤ 9223372036854775807) (W : World) (hb : Buf W (.slice a n c) xs) :
    Calls Try.prog 6 #[.agg #[.slice a n c], .int .u64 t, .int .u64 st, .int .i64 p, .int .u64 x, .int .i64 xx, .int .i64 yy, .int .i64 k] W fun e w' => e = .returned (.bool true) ∧ Below W.heap.size W w' := by
  obtain ⟨hn, _⟩ := hb.lenEq
  have hml : n ≤ maxLen := by rw [hn]; exact hb.len
  by_cases h7 : 70000 < n ∨ (n ≤ 70000 ∧ (xx < 0 ∨ (0 ≤ xx ∧ 4095 < xx) ∨ (0 ≤ xx ∧ xx ≤ 4095 ∧ yy < 0) ∨ (0 ≤ xx ∧ xx ≤ 4095 ∧ 0 ≤ yy ∧ 4095 < yy)))
  · exact walk_big pages a n c t st p x xx yy k h7 hml W
  have hl : xs.length ≤ 140737488355328 := by omega
  obtain ⟨h1, h2, h3⟩ := sv_offset (xs := xs) t st p k (x / 4096) xx yy (by omega) (by omega) (by omega)
  refine walk_with pages a n c t st p x xx yy k (x / 4096) (svV xs t st p (4096 * (x / 4096) + xx) k).addr (svV xs t st p (4096 * (x / 4096) + yy) k).addr ((svV xs t st p (4096 * (x / 4096) + xx) k).addr - xx) (svV xs t st p (4096 * (x / 4096) + xx) k).cause (svV xs t st p (4096 * (x / 4096) + yy) k).cause (svV xs t st p (4096 * (x / 4096) + xx) k).ok xs (svV xs t st p (4096 * (x / 4096) + xx) k).mem
    (by omega) (by omega) (by omega) (by omega) (by omega) (by omega) (by omega) (andNot_page x hx) (fun h => ?_) W hb (fun w v _ h => outs pages ht hst (by omega) h hl _ rfl) (fun w v _ h => ?_)
  · obtain ⟨r, r0, r1, e1, e2⟩ := h3 h
    rw [e1, e2]
    omega
  · have := outs pages ht hst (x := 4096 * (x / 4096) + yy) (p := p) (k := k) (by omega) h hl _ rfl
    rw [← h1, ← h2] at this
    exact this
set_option maxRecDepth 100000 in
theorem lifted (os : Os) (started : os.Started) (H : Type) (enc : TypeId × Value → H) :
    ReturnsInHanded {} Try.checked os 6 .any (Rows.sv39OffsetSpec.pre6 enc Try.prog Try.f6 Rows.sv39OffsetRow.domain false) (Rows.sv39OffsetSpec.post enc Try.prog Try.f6 false true false false) := by
  refine returnsInHanded_of_change (C := Try.checked) own started (by kernel_rfl) Try.func6
    (ChangeSpec.witness6 (enc := enc) (C := Try.checked) false ⟨#[], #[.agg #[.slice none 0 0], .int .u64 0, .int .u64 0, .int .i64 0, .int .u64 0, .int .i64 0, .int .i64 0, .int .i64 0], []⟩ 8 (by kernel_rfl) (by kernel_rfl) (by kernel_rfl) (by kernel_rfl)) ?_
  intro W base args ds gs before hval0 hW _ _
  have hval : ∀ (j : Nat) t v, Try.f6.params[j]? = some t → args[j]? = some v → Value.okWide Try.prog W .any base t v := hval0
  have hW' := hW
  obtain ⟨p, q, hA0, hV, rfl, hfz, hnd⟩ := hW
  have hA : DataW.TrodAll enc Try.prog W 0 (fun _ => true) true Try.f6.params.toList args.toList ds p := hA0
  rw [Try.params6] at hA hval
  obtain ⟨v0, vs0, d0, ds0, p0, q0, hargs, rfl, rfl, h0, r'0⟩ := trodAll_cons hA
  obtain ⟨v1, vs1, d1, ds1, p1, q1, rfl, rfl, rfl, h1, r'1⟩ := trodAll_cons r'0
  obtain ⟨v2, vs2, d2, ds2, p2, q2, rfl, rfl, rfl, h2, r'2⟩ := trodAll_cons r'1
  obtain ⟨v3, vs3, d3, ds3, p3, q3, rfl, rfl, rfl, h3, r'3⟩ := trodAll_cons r'2
  obtain ⟨v4, vs4, d4, ds4, p4, q4, rfl, rfl, rfl, h4, r'4⟩ := trodAll_cons r'3
  obtain ⟨v5, vs5, d5, ds5, p5, q5, rfl, rfl, rfl, h5, r'5⟩ := trodAll_cons r'4
  obtain ⟨v6, vs6, d6, ds6, p6, q6, rfl, rfl, rfl, h6, r'6⟩ := trodAll_cons r'5
  obtain ⟨v7, vs7, d7, ds7, p7, q7, rfl, rfl, rfl, h7, r'7⟩ := trodAll_cons r'6
  obtain ⟨rfl, rfl, rfl⟩ := trodAll_nil r'7
  obtain rfl : args = #[v0, v1, v2, v3, v4, v5, v6, v7] := by cases args; simp_all
  obtain ⟨a0, n0, c0, x0, rfl, k0⟩ := open_ram (hval 0 24 v0 rfl rfl) h0
  obtain ⟨a1, rfl, rfl, rfl, w1⟩ := open_int Try.underlying25 (hval 1 25 v1 rfl rfl) h1
  obtain ⟨a2, rfl, rfl, rfl, w2⟩ := open_int Try.underlying25 (hval 2 25 v2 rfl rfl) h2
  obtain ⟨a3, rfl, rfl, rfl, w3⟩ := open_int Try.underlying3 (hval 3 3 v3 rfl rfl) h3
  obtain ⟨a4, rfl, rfl, rfl, w4⟩ := open_int Try.underlying25 (hval 4 25 v4 rfl rfl) h4
  obtain ⟨a5, rfl, rfl, rfl, w5⟩ := open_int Try.underlying3 (hval 5 3 v5 rfl rfl) h5
  obtain ⟨a6, rfl, rfl, rfl, w6⟩ := open_int Try.underlying3 (hval 6 3 v6 rfl rfl) h6
  obtain ⟨a7, rfl, rfl, rfl, w7⟩ := open_int Try.underlying3 (hval 7 3 v7 rfl rfl) h7
  refine (walk a0 n0 c0 x0 a1 (wf_u64 w1) a2 (wf_u64 w2) a3 (wf_i64 w3) a4 (wf_u64 w4) a5 (wf_i64 w5) a6 (wf_i64 w6) a7 (wf_i64 w7) W k0).mono fun e W' ⟨he, hb⟩ => ?_
  subst he
  exact ⟨_, rfl, law_post hW' rfl rfl laid (by kernel_rfl) rfl Try.underlying4 hb⟩

theorem over : Rows.sv39OffsetRow.holds Try.pinned (OpenSpec.ofChange Rows.sv39OffsetSpec) :=
  OpenClaim.holds_of_wide 6 Try.f6 rfl rfl rfl rfl rfl rfl rfl ⟨rfl, rfl, rfl, rfl, rfl⟩ rfl rfl rfl rfl rfl (by kernel_rfl) Try.func6 (by kernel_rfl)
    (of_decide_eq_true (by kernel_rfl)) (by unfold Func.isWrapper; first | (rw [if_pos (by decide +kernel)]; kernel_rfl) | (rw [if_neg (by decide +kernel)]; exact ⟨rfl, rfl⟩))
    (fun os started H enc _ => lifted os started H enc)

theorem proved : Rows.Sv39OffsetSaid := over
#print axioms proved
end Go.Proofs.Ytocmningcpcmiaa.sv39Offset
