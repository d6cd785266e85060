/-
  The statement that what lets a user in by pages never lets a supervisor fetch, nor read or write without its leave. For every memory, registers, address, kind. Conditions: none.
-/
import Derived.Test.YtocmningcpcmiaaRows
import Derived.Test.YtocmningcpcmiaaSvP
import Derived.Test.YtocmningcpcmiaaLaw
import Derived.Deep.QuietTactic
import Derived.BigQuiet
import Derived.Deep.DeepCutAuto
set_option linter.unusedVariables false
set_option linter.unusedSimpArgs false
namespace Go.Proofs.Ytocmningcpcmiaa.sv39Apart
open Go.ChangeShapes Go.WideShapes Go.ChangeAt Go.RowKit

theorem outs (P : Pages) {w : World} {v : Value} {xs : List Int} {t st p x k : Int} (h1 : 0 ≤ t ∧ t < 18446744073709551616) (h2 : 0 ≤ st ∧ st < 18446744073709551616) (h3 : 0 ≤ x ∧ x < 18446744073709551616) (hb : Buf w v xs) (hl : xs.length ≤ 140737488355328) (s : Sv) (hs : svV xs t st p x k = s) :
    Calls Try.prog 9 #[.agg #[v], .int .u64 t, .int .u64 st, .int .i64 p, .int .u64 x, .int .i64 k] w fun e w' => ∃ a n c, e = .returned (.tuple #[.int .u64 s.addr, .agg #[.slice a n c], .int .i64 s.cause, .bool s.ok]) ∧ Hid (Buf w' (.slice a n c) s.mem) ∧ Grew w w' :=
  P.at s hs h1.1 h1.2 h2.1 h2.2 h3.1 h3.2 hb hl

theorem walk_big (P : Pages) (a : Option Addr) (n c : Nat) (t st x k m : Int) (ht : 0 ≤ t ∧ t < 18446744073709551616) (hmd : t / 1152921504606846976 = m) (hn : 70000 < n ∨ (n ≤ 70000 ∧ m ≠ 8)) (hm : n ≤ maxLen) (W : World) :
    Calls Try.prog 3 #[.agg #[.slice a n c], .int .u64 t, .int .u64 st, .int .u64 x, .int .i64 k] W fun e w' => e = .returned (.bool true) ∧ Below W.heap.size W w' := by
  unfold maxLen at hm
  obtain ⟨ht0, ht1⟩ := ht
  have hn' : (70000 : Int) < (n : Int) ∨ ((n : Int) ≤ 70000 ∧ m ≠ 8) := by omega
  clear hn
  rcases hn' with h1 | ⟨h1, h2⟩
  · clear hmd
    go_enter Try.func3, Try.ntmps3
    go_wp2_with fail
    refine (heads_c P _).mono ?_
    rintro e w6 ⟨rfl, g6⟩
    go_wp2_with fail
    go_ret
    exact ⟨rfl, ((Grew.refl W).alloc _).trans g6⟩
  · have e2 : (m != 8) = true := by simpa using h2
    go_enter Try.func3, Try.ntmps3
    go_wp2_with fail
    refine (heads_c P _).mono ?_
    rintro e w6 ⟨rfl, g6⟩
    go_wp2_with fail
    go_ret
    exact ⟨rfl, ((Grew.refl W).alloc _).trans g6⟩

set_option maxRecDepth 100000 in
set_option maxHeartbeats 4000000 in
theorem walk_with (P : Pages) (a : Option Addr) (n c : Nat) (t st st' x k z1 z2 z3 c1 c2 c3 : Int) (b1 b2 b3 : Bool) (xs u1 u2 u3 : List Int) (ht0 : 0 ≤ t) (ht1 : t < 18446744073709551616) (hmd : t / 1152921504606846976 = 8) (hst : bits .andNot .u64 st 262144 = st') (hn : n ≤ 70000) (hz : b1 = true → b2 = false ∧ b3 = false) (W : World) (hb : Buf W (.slice a n c) xs)
    (r1 : ∀ w v, Grew W w → Buf w v xs → Calls Try.prog 9 #[.agg #[v], .int .u64 t, .int .u64 st, .int .i64 0, .int .u64 x, .int .i64 k] w fun e w' => ∃ a n c, e = .returned (.tuple #[.int .u64 z1, .agg #[.slice a n c], .int .i64 c1, .bool b1]) ∧ Hid (Buf w' (.slice a n c) u1) ∧ Grew w w')
    (r2 : ∀ w v, Grew W w → Buf w v xs → Calls Try.prog 9 #[.agg #[v], .int .u64 t, .int .u64 st, .int .i64 1, .int .u64 x, .int .i64 0] w fun e w' => ∃ a n c, e = .returned (.tuple #[.int .u64 z2, .agg #[.slice a n c], .int .i64 c2, .bool b2]) ∧ Hid (Buf w' (.slice a n c) u2) ∧ Grew w w')
    (r3 : ∀ w v, Grew W w → Buf w v xs → Calls Try.prog 9 #[.agg #[v], .int .u64 t, .int .u64 st', .int .i64 1, .int .u64 x, .int .i64 k] w fun e w' => ∃ a n c, e = .returned (.tuple #[.int .u64 z3, .agg #[.slice a n c], .int .i64 c3, .bool b3]) ∧ Hid (Buf w' (.slice a n c) u3) ∧ Grew w w') :
    Calls Try.prog 3 #[.agg #[.slice a n c], .int .u64 t, .int .u64 st, .int .u64 x, .int .i64 k] W fun e w' => e = .returned (.bool true) ∧ Below W.heap.size W w' := by
  have R1 := Lib.hid r1
  have R2 := Lib.hid r2
  have R3 := Lib.hid r3
  have HB := Lib.hid hb
  have HZ := Lib.hid hz
  have hn' : (n : Int) ≤ 70000 := by omega
  clear r1 r2 r3 hb hz
  go_enter Try.func3, Try.ntmps3
  go_upto_region 1 with fail
  have hA : Blk (W.alloc (.cells #[.slice a n c] 24)) W.heap.size #[.slice a n c] 24 := Blk.new W _ _ _ rfl
  have g0 : Grew W (W.alloc (.cells #[.slice a n c] 24)) := (Grew.refl W).alloc _
  generalize (W.alloc (.cells #[.slice a n c] 24)) = w0 at *
  have cA := (hA).cell 0
  go_wp2_with fail
  refine (R1.out _ _ g0 (HB.out.grew g0)).mono ?_
  rintro e w1 h1
  obtain ⟨aC, nC, cC, rfl, hC, g1⟩ := h1
  clear cA
  go_upto_region 4 with fail
  have bC : Blk (w1.alloc (.cells #[.slice aC nC cC] 24)) w1.heap.size #[.slice aC nC cC] 24 := Blk.new _ _ _ _ rfl
  have s2 : Grew w0 (w1.alloc (.cells #[.slice aC nC cC] 24)) := g1.alloc _
  have HC := Lib.hid (takes_box hC.out #[.slice aC nC cC] 24)
  generalize (w1.alloc (.cells #[.slice aC nC cC] 24)) = w2 at *
  generalize w1.heap.size = BC at *
  have cA := (hA.grew s2).cell 0
  go_wp2_with fail
  refine (R2.out _ _ (g0.trans s2) (HB.out.grew (g0.trans s2))).mono ?_
  rintro e w3 h3
  obtain ⟨aD, nD, cD, rfl, hD, g3⟩ := h3
  clear cA
  go_upto_region 5 with fail
  have bD : Blk (w3.alloc (.cells #[.slice aD nD cD] 24)) w3.heap.size #[.slice aD nD cD] 24 := Blk.new _ _ _ _ rfl
  have s4 : Grew w2 (w3.alloc (.cells #[.slice aD nD cD] 24)) := g3.alloc _
  have HD := Lib.hid (takes_box hD.out #[.slice aD nD cD] 24)
  generalize (w3.alloc (.cells #[.slice aD nD cD] 24)) = w4 at *
  generalize w3.heap.size = BD at *
  have cA := (hA.grew (s2.trans s4)).cell 0
  go_wp2_with fail
  refine (R3.out _ _ ((g0.trans s2).trans s4) (HB.out.grew ((g0.trans s2).trans s4))).mono ?_
  rintro e w5 h5
  obtain ⟨aE, nE, cE, rfl, hE, g5⟩ := h5
  clear cA
  go_upto_region 6 with fail
  have bE : Blk (w5.alloc (.cells #[.slice aE nE cE] 24)) w5.heap.size #[.slice aE nE cE] 24 := Blk.new _ _ _ _ rfl
  have s6 : Grew w4 (w5.alloc (.cells #[.slice aE nE cE] 24)) := g5.alloc _
  have HE := Lib.hid (takes_box hE.out #[.slice aE nE cE] 24)
  generalize (w5.alloc (.cells #[.slice aE nE cE] 24)) = w6 at *
  generalize w5.heap.size = BE at *
  cases b1
  · go_wp2_with fail
    refine (heads_c P _).mono ?_
    rintro e wh ⟨rfl, gh⟩
    go_wp2_with fail
    go_ret
    exact ⟨rfl, (((g0.trans s2).trans s4).trans s6).trans gh⟩
  · obtain ⟨rfl, rfl⟩ := HZ.out rfl
    go_wp2_with fail
    refine (heads_c P _).mono ?_
    rintro e wh ⟨rfl, gh⟩
    go_wp2_with fail
    go_ret
    exact ⟨rfl, (((g0.trans s2).trans s4).trans s6).trans gh⟩

theorem mode_of (t : Int) (ht : 0 ≤ t ∧ t < 18446744073709551616) (h : t / 1152921504606846976 = 8) : fieldV t 63 60 = 8 := by
  unfold fieldV
  rw [if_pos (by omega), show (60 : Int).toNat = 60 by decide, show (63 - 60 + 1 : Int).toNat = 4 by decide, show (2 : Int) ^ 60 = 1152921504606846976 by decide, show (2 : Int) ^ 4 = 16 by decide, h]
  decide
theorem clear18 (st : Int) (hst : 0 ≤ st ∧ st < 18446744073709551616) : (0 ≤ bits .andNot .u64 st 262144 ∧ bits .andNot .u64 st 262144 < 18446744073709551616) ∧ fieldV (bits .andNot .u64 st 262144) 18 18 = 0 := by
  obtain ⟨X, rfl⟩ := Int.eq_ofNat_of_zero_le hst.1
  have hX : X < 2 ^ 64 := by omega
  rw [show (262144 : Int) = ((262144 : Nat) : Int) from rfl, u64_andNot_nat X 262144 (by omega) (by omega)]
  have hl : X &&& (18446744073709551615 - 262144) < 2 ^ 64 := Nat.lt_of_le_of_lt Nat.and_le_left hX
  refine ⟨by omega, ?_⟩
  have := field_nat (X &&& (18446744073709551615 - 262144)) 18 18 (by omega) (by omega)
  refine this.trans ?_
  have h0 : (X &&& (18446744073709551615 - 262144)) >>> 18 % 2 ^ (18 - 18 + 1) = 0 := by
    apply Nat.eq_of_testBit_eq
    intro i
    rw [Nat.testBit_mod_two_pow, Nat.testBit_shiftRight, Nat.testBit_and]
    by_cases hi : i = 0
    · subst hi
      rw [show (18446744073709551615 - 262144 : Nat).testBit (18 + 0) = false by decide +kernel]
      simp
    · simp [show ¬ i < 1 by omega]
  rw [h0]; rfl

theorem walk (a : Option Addr) (n c : Nat) (xs : List Int) (t : Int) (ht : 0 ≤ t ∧ t < 18446744073709551616) (st : Int) (hst : 0 ≤ st ∧ st < 18446744073709551616) (x : Int) (hx : 0 ≤ x ∧ x < 18446744073709551616) (k : Int) (_hk : -9223372036854775808 ≤ k ∧ k ≤ 9223372036854775807) (W : World) (hb : Buf W (.slice a n c) xs) :
    Calls Try.prog 3 #[.agg #[.slice a n c], .int .u64 t, .int .u64 st, .int .u64 x, .int .i64 k] W fun e w' => e = .returned (.bool true) ∧ Below W.heap.size W w' := by
  obtain ⟨hn, _⟩ := hb.lenEq
  have hml : n ≤ maxLen := by rw [hn]; exact hb.len
  by_cases h7 : 70000 < n
  · exact walk_big pages a n c t st x k _ ht rfl (.inl h7) hml W
  by_cases h8 : t / 1152921504606846976 = 8
  · have hl : xs.length ≤ 140737488355328 := by omega
    have hm := mode_of t ht h8
    obtain ⟨hb', h18⟩ := clear18 st hst
    refine walk_with pages a n c t st _ x k _ _ _ _ _ _ _ _ _ xs _ _ _ ht.1 ht.2 h8 rfl (by omega) (fun h => ⟨sv_user hm h st 0 (.inl rfl), sv_user hm h _ k (.inr h18)⟩) W hb
      (fun w v _ h => outs pages ht hst hx h hl (svV xs t st 0 x k) rfl) (fun w v _ h => outs pages ht hst hx h hl (svV xs t st 1 x 0) rfl) (fun w v _ h => outs pages ht hb' hx h hl (svV xs t (bits .andNot .u64 st 262144) 1 x k) rfl)
  · exact walk_big pages a n c t st x k _ ht rfl (.inr ⟨by omega, h8⟩) hml W
set_option maxRecDepth 100000 in
theorem lifted (os : Os) (started : os.Started) (H : Type) (enc : TypeId × Value → H) :
    ReturnsInHanded {} Try.checked os 3 .any (Rows.sv39ApartSpec.pre6 enc Try.prog Try.f3 Rows.sv39ApartRow.domain false) (Rows.sv39ApartSpec.post enc Try.prog Try.f3 false true false false) := by
  refine returnsInHanded_of_change (C := Try.checked) own started (by kernel_rfl) Try.func3
    (ChangeSpec.witness6 (enc := enc) (C := Try.checked) false ⟨#[], #[.agg #[.slice none 0 0], .int .u64 0, .int .u64 0, .int .u64 0, .int .i64 0], []⟩ 8 (by kernel_rfl) (by kernel_rfl) (by kernel_rfl) (by kernel_rfl)) ?_
  intro W base args ds gs before hval0 hW _ _
  have hval : ∀ (j : Nat) t v, Try.f3.params[j]? = some t → args[j]? = some v → Value.okWide Try.prog W .any base t v := hval0
  have hW' := hW
  obtain ⟨p, q, hA0, hV, rfl, hfz, hnd⟩ := hW
  have hA : DataW.TrodAll enc Try.prog W 0 (fun _ => true) true Try.f3.params.toList args.toList ds p := hA0
  rw [Try.params3] at hA hval
  obtain ⟨v0, vs0, d0, ds0, p0, q0, hargs, rfl, rfl, h0, r'0⟩ := trodAll_cons hA
  obtain ⟨v1, vs1, d1, ds1, p1, q1, rfl, rfl, rfl, h1, r'1⟩ := trodAll_cons r'0
  obtain ⟨v2, vs2, d2, ds2, p2, q2, rfl, rfl, rfl, h2, r'2⟩ := trodAll_cons r'1
  obtain ⟨v3, vs3, d3, ds3, p3, q3, rfl, rfl, rfl, h3, r'3⟩ := trodAll_cons r'2
  obtain ⟨v4, vs4, d4, ds4, p4, q4, rfl, rfl, rfl, h4, r'4⟩ := trodAll_cons r'3
  obtain ⟨rfl, rfl, rfl⟩ := trodAll_nil r'4
  obtain rfl : args = #[v0, v1, v2, v3, v4] := by cases args; simp_all
  obtain ⟨a0, n0, c0, x0, rfl, k0⟩ := open_ram (hval 0 24 v0 rfl rfl) h0
  obtain ⟨a1, rfl, rfl, rfl, w1⟩ := open_int Try.underlying25 (hval 1 25 v1 rfl rfl) h1
  obtain ⟨a2, rfl, rfl, rfl, w2⟩ := open_int Try.underlying25 (hval 2 25 v2 rfl rfl) h2
  obtain ⟨a3, rfl, rfl, rfl, w3⟩ := open_int Try.underlying25 (hval 3 25 v3 rfl rfl) h3
  obtain ⟨a4, rfl, rfl, rfl, w4⟩ := open_int Try.underlying3 (hval 4 3 v4 rfl rfl) h4
  refine (walk a0 n0 c0 x0 a1 (wf_u64 w1) a2 (wf_u64 w2) a3 (wf_u64 w3) a4 (wf_i64 w4) W k0).mono fun e W' ⟨he, hb⟩ => ?_
  subst he
  exact ⟨_, rfl, law_post hW' rfl rfl laid (by kernel_rfl) rfl Try.underlying4 hb⟩

theorem over : Rows.sv39ApartRow.holds Try.pinned (OpenSpec.ofChange Rows.sv39ApartSpec) :=
  OpenClaim.holds_of_wide 3 Try.f3 rfl rfl rfl rfl rfl rfl rfl ⟨rfl, rfl, rfl, rfl, rfl⟩ rfl rfl rfl rfl rfl (by kernel_rfl) Try.func3 (by kernel_rfl)
    (of_decide_eq_true (by kernel_rfl)) (by unfold Func.isWrapper; first | (rw [if_pos (by decide +kernel)]; kernel_rfl) | (rw [if_neg (by decide +kernel)]; exact ⟨rfl, rfl⟩))
    (fun os started H enc _ => lifted os started H enc)

theorem proved : Rows.Sv39ApartSaid := over
#print axioms proved
end Go.Proofs.Ytocmningcpcmiaa.sv39Apart
