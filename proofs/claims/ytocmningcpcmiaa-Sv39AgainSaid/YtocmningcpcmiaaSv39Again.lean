/-
  The statement that what was translated is translated the same again, memory staying, and that a fault changes nothing. For every memory, registers, privilege, address, kind. Conditions: none.
-/
import Derived.Test.YtocmningcpcmiaaRows
import Derived.Test.YtocmningcpcmiaaSvP
import Derived.Test.YtocmningcpcmiaaLaw
import Derived.Deep.QuietTactic
import Derived.BigQuiet
import Derived.Deep.DeepCutAuto
set_option linter.unusedVariables false
set_option linter.unusedSimpArgs false
namespace Go.Proofs.Ytocmningcpcmiaa.sv39Again
open Go.ChangeShapes Go.WideShapes Go.ChangeAt Go.RowKit

theorem outs (P : Pages) {w : World} {v : Value} {xs : List Int} {t st p x k : Int} (h1 : 0 ≤ t ∧ t < 18446744073709551616) (h2 : 0 ≤ st ∧ st < 18446744073709551616) (h3 : 0 ≤ x ∧ x < 18446744073709551616) (hb : Buf w v xs) (hl : xs.length ≤ 140737488355328) (s : Sv) (hs : svV xs t st p x k = s) :
    Calls Try.prog 9 #[.agg #[v], .int .u64 t, .int .u64 st, .int .i64 p, .int .u64 x, .int .i64 k] w fun e w' => ∃ a n c, e = .returned (.tuple #[.int .u64 s.addr, .agg #[.slice a n c], .int .i64 s.cause, .bool s.ok]) ∧ Hid (Buf w' (.slice a n c) s.mem) ∧ Grew w w' :=
  P.at s hs h1.1 h1.2 h2.1 h2.2 h3.1 h3.2 hb hl

theorem walk_big (P : Pages) (a : Option Addr) (n c : Nat) (t st p x k : Int) (hn : 70000 < n) (hm : n ≤ maxLen) (W : World) :
    Calls Try.prog 5 #[.agg #[.slice a n c], .int .u64 t, .int .u64 st, .int .i64 p, .int .u64 x, .int .i64 k] W fun e w' => e = .returned (.bool true) ∧ Below W.heap.size W w' := by
  unfold maxLen at hm
  have hn' : (70000 : Int) < (n : Int) := by omega
  clear hn
  go_enter Try.func5, Try.ntmps5
  go_wp2_with fail
  refine (heads_c P _).mono ?_
  rintro e w6 ⟨rfl, g6⟩
  go_wp2_with fail
  go_ret
  exact ⟨rfl, ((Grew.refl W).alloc _).trans g6⟩

set_option maxRecDepth 100000 in
set_option maxHeartbeats 4000000 in
theorem walk_no (P : Pages) (a : Option Addr) (n c : Nat) (t st p x k cz : Int) (xs : List Int) (hz : 0 < cz) (hn : n ≤ 70000) (W : World) (hb : Buf W (.slice a n c) xs)
    (r1 : ∀ w v, Grew W w → Buf w v xs → Calls Try.prog 9 #[.agg #[v], .int .u64 t, .int .u64 st, .int .i64 p, .int .u64 x, .int .i64 k] w fun e w' => ∃ a n c, e = .returned (.tuple #[.int .u64 0, .agg #[.slice a n c], .int .i64 cz, .bool false]) ∧ Hid (Buf w' (.slice a n c) xs) ∧ Grew w w') :
    Calls Try.prog 5 #[.agg #[.slice a n c], .int .u64 t, .int .u64 st, .int .i64 p, .int .u64 x, .int .i64 k] W fun e w' => e = .returned (.bool true) ∧ Below W.heap.size W w' := by
  have R1 := Lib.hid r1
  have HB := Lib.hid hb
  have hn' : (n : Int) ≤ 70000 := by omega
  clear r1 hb
  go_enter Try.func5, Try.ntmps5
  go_upto_region 1 with fail
  have hA : Blk (W.alloc (.cells #[.slice a n c] 24)) W.heap.size #[.slice a n c] 24 := Blk.new W _ _ _ rfl
  have g0 : Grew W (W.alloc (.cells #[.slice a n c] 24)) := (Grew.refl W).alloc _
  generalize (W.alloc (.cells #[.slice a n c] 24)) = w0 at *
  have cA := (hA).cell 0
  go_wp2_with fail
  refine (R1.out _ _ g0 (HB.out.grew g0)).mono ?_
  rintro e w1 h1
  obtain ⟨aC, nC, cC, rfl, hC, g1⟩ := h1
  clear cA
  go_upto_region 4 with fail
  have bC : Blk (w1.alloc (.cells #[.slice aC nC cC] 24)) w1.heap.size #[.slice aC nC cC] 24 := Blk.new _ _ _ _ rfl
  have s2 : Grew w0 (w1.alloc (.cells #[.slice aC nC cC] 24)) := g1.alloc _
  have HC := Lib.hid (takes_box hC.out #[.slice aC nC cC] 24)
  generalize (w1.alloc (.cells #[.slice aC nC cC] 24)) = w2 at *
  generalize w1.heap.size = BC at *
  have cA := (hA.grew s2).cell 0
  have cC := bC.cell 0
  go_wp2_with fail
  refine (same_b _ HC.out (HB.out.grew (g0.trans s2)) rfl).mono ?_
  rintro e w3 ⟨rfl, g3⟩
  go_wp2_with fail
  refine (heads_c P _).mono ?_
  rintro e wh ⟨rfl, gh⟩
  go_wp2_with fail
  go_ret
  exact ⟨rfl, ((g0.trans s2).trans g3).trans gh⟩

set_option maxRecDepth 100000 in
set_option maxHeartbeats 4000000 in
theorem walk_yes (P : Pages) (a : Option Addr) (n c : Nat) (t st p x k z : Int) (xs zs : List Int) (hzs : zs.length = n) (hn : n ≤ 70000) (W : World) (hb : Buf W (.slice a n c) xs)
    (r1 : ∀ w v, Grew W w → Buf w v xs → Calls Try.prog 9 #[.agg #[v], .int .u64 t, .int .u64 st, .int .i64 p, .int .u64 x, .int .i64 k] w fun e w' => ∃ a n c, e = .returned (.tuple #[.int .u64 z, .agg #[.slice a n c], .int .i64 0, .bool true]) ∧ Hid (Buf w' (.slice a n c) zs) ∧ Grew w w')
    (r2 : ∀ w v, Grew W w → Buf w v zs → Calls Try.prog 9 #[.agg #[v], .int .u64 t, .int .u64 st, .int .i64 p, .int .u64 x, .int .i64 k] w fun e w' => ∃ a n c, e = .returned (.tuple #[.int .u64 z, .agg #[.slice a n c], .int .i64 0, .bool true]) ∧ Hid (Buf w' (.slice a n c) zs) ∧ Grew w w') :
    Calls Try.prog 5 #[.agg #[.slice a n c], .int .u64 t, .int .u64 st, .int .i64 p, .int .u64 x, .int .i64 k] W fun e w' => e = .returned (.bool true) ∧ Below W.heap.size W w' := by
  have R1 := Lib.hid r1
  have R2 := Lib.hid r2
  have HB := Lib.hid hb
  have HZ := Lib.hid hzs
  have hn' : (n : Int) ≤ 70000 := by omega
  clear r1 r2 hb hzs
  go_enter Try.func5, Try.ntmps5
  go_upto_region 1 with fail
  have hA : Blk (W.alloc (.cells #[.slice a n c] 24)) W.heap.size #[.slice a n c] 24 := Blk.new W _ _ _ rfl
  have g0 : Grew W (W.alloc (.cells #[.slice a n c] 24)) := (Grew.refl W).alloc _
  generalize (W.alloc (.cells #[.slice a n c] 24)) = w0 at *
  have cA := (hA).cell 0
  go_wp2_with fail
  refine (R1.out _ _ g0 (HB.out.grew g0)).mono ?_
  rintro e w1 h1
  obtain ⟨aC, nC, cC, rfl, hC, g1⟩ := h1
  clear cA
  go_upto_region 4 with fail
  have bC : Blk (w1.alloc (.cells #[.slice aC nC cC] 24)) w1.heap.size #[.slice aC nC cC] 24 := Blk.new _ _ _ _ rfl
  have s2 : Grew w0 (w1.alloc (.cells #[.slice aC nC cC] 24)) := g1.alloc _
  have HC := Lib.hid (takes_box hC.out #[.slice aC nC cC] 24)
  generalize (w1.alloc (.cells #[.slice aC nC cC] 24)) = w2 at *
  generalize w1.heap.size = BC at *
  obtain rfl : nC = n := by rw [HC.out.lenEq.1, HZ.out]
  have cC := (bC).cell 0
  go_wp2_with fail
  refine (R2.out _ _ (g0.trans s2) HC.out).mono ?_
  rintro e w3 h3
  obtain ⟨aD, nD, cD, rfl, hD, g3⟩ := h3
  clear cC
  go_upto_region 7 with fail
  have bD : Blk (w3.alloc (.cells #[.slice aD nD cD] 24)) w3.heap.size #[.slice aD nD cD] 24 := Blk.new _ _ _ _ rfl
  have s4 : Grew w2 (w3.alloc (.cells #[.slice aD nD cD] 24)) := g3.alloc _
  have HD := Lib.hid (takes_box hD.out #[.slice aD nD cD] 24)
  generalize (w3.alloc (.cells #[.slice aD nD cD] 24)) = w4 at *
  generalize w3.heap.size = BD at *
  have cA := (hA.grew (s2.trans s4)).cell 0
  have cC := (bC.grew s4).cell 0
  have cD := bD.cell 0
  have e0 : ∀ q : Int, (q == q) = true := fun q => by simp
  go_wp2_with fail
  refine (same_b _ HD.out (HC.out.grew s4) rfl).mono ?_
  rintro e w5 ⟨rfl, g5⟩
  clear cA cC cD
  have cA := (hA.grew ((s2.trans s4).trans g5)).cell 0
  have cC := (bC.grew (s4.trans g5)).cell 0
  go_wp2_with fail
  refine (heads_c P _).mono ?_
  rintro e wh ⟨rfl, gh⟩
  go_wp2_with fail
  go_ret
  exact ⟨rfl, ((g0.trans s2).trans (s4.trans g5)).trans gh⟩

theorem walk (a : Option Addr) (n c : Nat) (xs : List Int) (t : Int) (ht : 0 ≤ t ∧ t < 18446744073709551616) (st : Int) (hst : 0 ≤ st ∧ st < 18446744073709551616) (p : Int) (_hp : -9223372036854775808 ≤ p ∧ p ≤ 9223372036854775807) (x : Int) (hx : 0 ≤ x ∧ x < 18446744073709551616) (k : Int) (_hk : -9223372036854775808 ≤ k ∧ k ≤ 9223372036854775807) (W : World) (hb : Buf W (.slice a n c) xs) :
    Calls Try.prog 5 #[.agg #[.slice a n c], .int .u64 t, .int .u64 st, .int .i64 p, .int .u64 x, .int .i64 k] W fun e w' => e = .returned (.bool true) ∧ Below W.heap.size W w' := by
  obtain ⟨hn, _⟩ := hb.lenEq
  by_cases h7 : 70000 < n
  · exact walk_big pages a n c t st p x k h7 (by rw [hn]; exact hb.len) W
  have hl : xs.length ≤ 140737488355328 := by omega
  have hlen : (svV xs t st p x k).mem.length = xs.length := by
    unfold svV
    split
    · rfl
    · split
      · exact svGo_len _ _ _ _ _ _ _
      · rfl
  cases ho : (svV xs t st p x k).ok
  · obtain ⟨page, hs⟩ := sv_no ho
    exact walk_no pages a n c t st p x k (faultV k page) xs (fault_pos k page) (by omega) W hb (fun w v _ h => outs pages ht hst hx h hl (noV xs k page) hs)
  · obtain ⟨hag, hc⟩ := sv_again hb.ok ho
    refine walk_yes pages a n c t st p x k (svV xs t st p x k).addr xs (svV xs t st p x k).mem (by rw [hlen, hn]) (by omega) W hb (fun w v _ h => ?_) (fun w v _ h => ?_)
    · have := outs pages ht hst hx h hl (svV xs t st p x k) rfl
      rw [ho, hc] at this
      exact this
    · have := outs pages ht hst hx h (by rw [hlen]; exact hl) (svV xs t st p x k) hag
      rw [ho, hc] at this
      exact this
set_option maxRecDepth 100000 in
theorem lifted (os : Os) (started : os.Started) (H : Type) (enc : TypeId × Value → H) :
    ReturnsInHanded {} Try.checked os 5 .any (Rows.sv39AgainSpec.pre6 enc Try.prog Try.f5 Rows.sv39AgainRow.domain false) (Rows.sv39AgainSpec.post enc Try.prog Try.f5 false true false false) := by
  refine returnsInHanded_of_change (C := Try.checked) own started (by kernel_rfl) Try.func5
    (ChangeSpec.witness6 (enc := enc) (C := Try.checked) false ⟨#[], #[.agg #[.slice none 0 0], .int .u64 0, .int .u64 0, .int .i64 0, .int .u64 0, .int .i64 0], []⟩ 8 (by kernel_rfl) (by kernel_rfl) (by kernel_rfl) (by kernel_rfl)) ?_
  intro W base args ds gs before hval0 hW _ _
  have hval : ∀ (j : Nat) t v, Try.f5.params[j]? = some t → args[j]? = some v → Value.okWide Try.prog W .any base t v := hval0
  have hW' := hW
  obtain ⟨p, q, hA0, hV, rfl, hfz, hnd⟩ := hW
  have hA : DataW.TrodAll enc Try.prog W 0 (fun _ => true) true Try.f5.params.toList args.toList ds p := hA0
  rw [Try.params5] at hA hval
  obtain ⟨v0, vs0, d0, ds0, p0, q0, hargs, rfl, rfl, h0, r'0⟩ := trodAll_cons hA
  obtain ⟨v1, vs1, d1, ds1, p1, q1, rfl, rfl, rfl, h1, r'1⟩ := trodAll_cons r'0
  obtain ⟨v2, vs2, d2, ds2, p2, q2, rfl, rfl, rfl, h2, r'2⟩ := trodAll_cons r'1
  obtain ⟨v3, vs3, d3, ds3, p3, q3, rfl, rfl, rfl, h3, r'3⟩ := trodAll_cons r'2
  obtain ⟨v4, vs4, d4, ds4, p4, q4, rfl, rfl, rfl, h4, r'4⟩ := trodAll_cons r'3
  obtain ⟨v5, vs5, d5, ds5, p5, q5, rfl, rfl, rfl, h5, r'5⟩ := trodAll_cons r'4
  obtain ⟨rfl, rfl, rfl⟩ := trodAll_nil r'5
  obtain rfl : args = #[v0, v1, v2, v3, v4, v5] := by cases args; simp_all
  obtain ⟨a0, n0, c0, x0, rfl, k0⟩ := open_ram (hval 0 24 v0 rfl rfl) h0
  obtain ⟨a1, rfl, rfl, rfl, w1⟩ := open_int Try.underlying25 (hval 1 25 v1 rfl rfl) h1
  obtain ⟨a2, rfl, rfl, rfl, w2⟩ := open_int Try.underlying25 (hval 2 25 v2 rfl rfl) h2
  obtain ⟨a3, rfl, rfl, rfl, w3⟩ := open_int Try.underlying3 (hval 3 3 v3 rfl rfl) h3
  obtain ⟨a4, rfl, rfl, rfl, w4⟩ := open_int Try.underlying25 (hval 4 25 v4 rfl rfl) h4
  obtain ⟨a5, rfl, rfl, rfl, w5⟩ := open_int Try.underlying3 (hval 5 3 v5 rfl rfl) h5
  refine (walk a0 n0 c0 x0 a1 (wf_u64 w1) a2 (wf_u64 w2) a3 (wf_i64 w3) a4 (wf_u64 w4) a5 (wf_i64 w5) W k0).mono fun e W' ⟨he, hb⟩ => ?_
  subst he
  exact ⟨_, rfl, law_post hW' rfl rfl laid (by kernel_rfl) rfl Try.underlying4 hb⟩

theorem over : Rows.sv39AgainRow.holds Try.pinned (OpenSpec.ofChange Rows.sv39AgainSpec) :=
  OpenClaim.holds_of_wide 5 Try.f5 rfl rfl rfl rfl rfl rfl rfl ⟨rfl, rfl, rfl, rfl, rfl⟩ rfl rfl rfl rfl rfl (by kernel_rfl) Try.func5 (by kernel_rfl)
    (of_decide_eq_true (by kernel_rfl)) (by unfold Func.isWrapper; first | (rw [if_pos (by decide +kernel)]; kernel_rfl) | (rw [if_neg (by decide +kernel)]; exact ⟨rfl, rfl⟩))
    (fun os started H enc _ => lifted os started H enc)

theorem proved : Rows.Sv39AgainSaid := over
#print axioms proved
end Go.Proofs.Ytocmningcpcmiaa.sv39Again
