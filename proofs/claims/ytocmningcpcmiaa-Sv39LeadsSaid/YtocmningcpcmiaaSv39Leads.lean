/-
  The statement that says where every address leads. For every memory, registers, privilege, address, kind. Conditions: none.
-/
import Derived.Test.YtocmningcpcmiaaRows
import Derived.Test.YtocmningcpcmiaaSvP
import Derived.Test.YtocmningcpcmiaaLaw
import Derived.Deep.QuietTactic
import Derived.BigQuiet
import Derived.Deep.DeepCutAuto
set_option linter.unusedVariables false
set_option linter.unusedSimpArgs false
namespace Go.Proofs.Ytocmningcpcmiaa.sv39Leads
open Go.ChangeShapes Go.WideShapes Go.ChangeAt Go.RowKit

theorem outs (P : Pages) {w : World} {v : Value} {xs : List Int} {t st p x k : Int} (h1 : 0 ≤ t ∧ t < 18446744073709551616) (h2 : 0 ≤ st ∧ st < 18446744073709551616) (h3 : 0 ≤ x ∧ x < 18446744073709551616) (hb : Buf w v xs) (hl : xs.length ≤ 140737488355328) (s : Sv) (hs : svV xs t st p x k = s) :
    Calls Try.prog 9 #[.agg #[v], .int .u64 t, .int .u64 st, .int .i64 p, .int .u64 x, .int .i64 k] w fun e w' => ∃ a n c, e = .returned (.tuple #[.int .u64 s.addr, .agg #[.slice a n c], .int .i64 s.cause, .bool s.ok]) ∧ Hid (Buf w' (.slice a n c) s.mem) ∧ Grew w w' :=
  P.at s hs h1.1 h1.2 h2.1 h2.2 h3.1 h3.2 hb hl

theorem walk_big (P : Pages) (a : Option Addr) (n c : Nat) (t st p x k : Int) (hn : 70000 < n) (hm : n ≤ maxLen) (W : World) :
    Calls Try.prog 4 #[.agg #[.slice a n c], .int .u64 t, .int .u64 st, .int .i64 p, .int .u64 x, .int .i64 k] W fun e w' => e = .returned (.bool true) ∧ Below W.heap.size W w' := by
  unfold maxLen at hm
  have hn' : (70000 : Int) < (n : Int) := by omega
  clear hn
  go_enter Try.func4, Try.ntmps4
  go_wp2_with fail
  refine (heads_c P _).mono ?_
  rintro e w6 ⟨rfl, g6⟩
  go_wp2_with fail
  go_ret
  exact ⟨rfl, ((Grew.refl W).alloc _).trans g6⟩

set_option maxRecDepth 100000 in
set_option maxHeartbeats 4000000 in
theorem walk_with (P : Pages) (a : Option Addr) (n c : Nat) (t st p x k z cz : Int) (b : Bool) (xs zs : List Int) (hn : n ≤ 70000) (W : World) (hb : Buf W (.slice a n c) xs)
    (r1 : ∀ w v, Grew W w → Buf w v xs → Calls Try.prog 9 #[.agg #[v], .int .u64 t, .int .u64 st, .int .i64 p, .int .u64 x, .int .i64 k] w fun e w' => ∃ a n c, e = .returned (.tuple #[.int .u64 z, .agg #[.slice a n c], .int .i64 cz, .bool b]) ∧ Hid (Buf w' (.slice a n c) zs) ∧ Grew w w')
    (r2 : ∀ w v, Grew W w → Buf w v xs → Calls Try.prog 10 #[.agg #[v], .int .u64 t, .int .u64 st, .int .i64 p, .int .u64 x, .int .i64 k] w fun e w' => ∃ a n c, e = .returned (.tuple #[.int .u64 z, .agg #[.slice a n c], .int .i64 cz, .bool b]) ∧ Hid (Buf w' (.slice a n c) zs) ∧ Grew w w') :
    Calls Try.prog 4 #[.agg #[.slice a n c], .int .u64 t, .int .u64 st, .int .i64 p, .int .u64 x, .int .i64 k] W fun e w' => e = .returned (.bool true) ∧ Below W.heap.size W w' := by
  have R1 := Lib.hid r1
  have R2 := Lib.hid r2
  have HB := Lib.hid hb
  have HN := Lib.hid hb.lenEq.1
  have hn' : (n : Int) ≤ 70000 := by omega
  clear r1 r2 hb
  go_enter Try.func4, Try.ntmps4
  go_upto_region 1 with fail
  have hA : Blk (W.alloc (.cells #[.slice a n c] 24)) W.heap.size #[.slice a n c] 24 := Blk.new W _ _ _ rfl
  have g0 : Grew W (W.alloc (.cells #[.slice a n c] 24)) := (Grew.refl W).alloc _
  generalize (W.alloc (.cells #[.slice a n c] 24)) = w0 at *
  have cA := hA.cell 0
  have cA' := (hA.alloc (.cells #[] 5)).cell 0
  have HB0 := Lib.hid (HB.out.grew g0)
  have HROW := Lib.hid (Row.lit w0 w0.heap.size (Nat.le_refl _) #[] [] rfl (Nat.zero_le _) _ rfl 0 rfl)
  have HLEN := Lib.hid (show ([] : List Int).length + xs.length ≤ 140737488355328 by rw [← HN.out]; simp; omega)
  go_upto_region 4 with (refine wpList_append_b (W := w0) rfl (.tmp 27) (.tmp 29) rfl (by exact (Grew.refl w0).alloc _) HROW.out (HB0.out.grew ((Grew.refl w0).alloc _)) (by rfl) (by rfl) HLEN.out ?_; intro v1 w1 HR1 g1 q1; clear q1; have HB1 := Lib.hid (HR1.out.buf HB0.out.ok); obtain ⟨ao, no, co, eo⟩ : ∃ a n k, v1 = .slice a n k := (let ⟨a, k, e, _⟩ := HB1.out.shape; ⟨a, _, k, e⟩); subst eo)
  have hA2 : Blk (w1.alloc (.cells #[.slice ao no co] 24)) W.heap.size #[.slice a n c] 24 := (hA.grew g1).alloc _
  have hO2 : Blk (w1.alloc (.cells #[.slice ao no co] 24)) w1.heap.size #[.slice ao no co] 24 := Blk.new _ _ _ _ rfl
  have G2 : Grew W (w1.alloc (.cells #[.slice ao no co] 24)) := (g0.trans g1).alloc _
  have HO2 := Lib.hid (takes_box HB1.out #[.slice ao no co] 24)
  generalize (w1.alloc (.cells #[.slice ao no co] 24)) = w2 at *
  generalize w1.heap.size = O at *
  have HR2 := Lib.hid (HB.out.grew G2)
  clear cA cA' HROW hA
  have cO := (hO2).cell 0
  go_wp2_with fail
  refine (R1.out _ _ G2 HO2.out).mono ?_
  rintro e w3 h3
  obtain ⟨aC, nC, cC, rfl, hC, g3⟩ := h3
  clear cO
  go_upto_region 5 with fail
  have bC : Blk (w3.alloc (.cells #[.slice aC nC cC] 24)) w3.heap.size #[.slice aC nC cC] 24 := Blk.new _ _ _ _ rfl
  have s4 : Grew w2 (w3.alloc (.cells #[.slice aC nC cC] 24)) := g3.alloc _
  have HC := Lib.hid (takes_box hC.out #[.slice aC nC cC] 24)
  generalize (w3.alloc (.cells #[.slice aC nC cC] 24)) = w4 at *
  generalize w3.heap.size = BC at *
  have cA := (hA2.grew s4).cell 0
  go_wp2_with fail
  refine (R2.out _ _ (G2.trans s4) (HR2.out.grew s4)).mono ?_
  rintro e w5 h5
  obtain ⟨aD, nD, cD, rfl, hD, g5⟩ := h5
  clear cA
  go_upto_region 6 with fail
  have bD : Blk (w5.alloc (.cells #[.slice aD nD cD] 24)) w5.heap.size #[.slice aD nD cD] 24 := Blk.new _ _ _ _ rfl
  have s6 : Grew w4 (w5.alloc (.cells #[.slice aD nD cD] 24)) := g5.alloc _
  have HD := Lib.hid (takes_box hD.out #[.slice aD nD cD] 24)
  generalize (w5.alloc (.cells #[.slice aD nD cD] 24)) = w6 at *
  generalize w5.heap.size = BD at *
  have kC := bC.grew s6
  have cC := kC.cell 0
  have cD := bD.cell 0
  have e0 : ∀ q : Int, (q == q) = true := fun q => by simp
  have e1 : ∀ q : Bool, (q == q) = true := fun q => by simp
  go_wp2_with fail
  refine (same_b _ (HC.out.grew s6) HD.out rfl).mono ?_
  rintro e w7 ⟨rfl, g7⟩
  clear cC cD
  go_wp2_with fail
  refine (P.fault _ _ _).mono ?_
  rintro e w8 ⟨rfl, g8⟩
  go_wp2_with fail
  refine (ref8Fault_c _ _ _).mono ?_
  rintro e w9 ⟨rfl, rfl⟩
  have s28 := ((s4.trans s6).trans g7).trans g8
  have cA := (hA2.grew s28).cell 0
  have cO := (hO2.grew s28).cell 0
  go_wp2_with fail
  refine (same_b _ (HO2.out.grew s28) (HR2.out.grew s28) rfl).mono ?_
  rintro e w9 ⟨rfl, g9⟩
  go_wp2_with fail
  refine (heads_c P _).mono ?_
  rintro e wh ⟨rfl, gh⟩
  go_wp2_with fail
  go_ret
  exact ⟨rfl, ((G2.trans s28).trans g9).trans gh⟩

theorem walk (a : Option Addr) (n c : Nat) (xs : List Int) (t : Int) (ht : 0 ≤ t ∧ t < 18446744073709551616) (st : Int) (hst : 0 ≤ st ∧ st < 18446744073709551616) (p : Int) (_hp : -9223372036854775808 ≤ p ∧ p ≤ 9223372036854775807) (x : Int) (hx : 0 ≤ x ∧ x < 18446744073709551616) (k : Int) (_hk : -9223372036854775808 ≤ k ∧ k ≤ 9223372036854775807) (W : World) (hb : Buf W (.slice a n c) xs) :
    Calls Try.prog 4 #[.agg #[.slice a n c], .int .u64 t, .int .u64 st, .int .i64 p, .int .u64 x, .int .i64 k] W fun e w' => e = .returned (.bool true) ∧ Below W.heap.size W w' := by
  obtain ⟨hn, _⟩ := hb.lenEq
  by_cases h7 : 70000 < n
  · exact walk_big pages a n c t st p x k h7 (by rw [hn]; exact hb.len) W
  have hl : xs.length ≤ 140737488355328 := by omega
  exact walk_with pages a n c t st p x k _ _ _ xs _ (by omega) W hb (fun w v _ h => outs pages ht hst hx h hl _ rfl) (fun w v _ h => (refTrans_c t st p x k ht.1 ht.2 hst.1 hst.2 hx.1 hx.2 w h hl).mono fun _ _ h => h.out)
set_option maxRecDepth 100000 in
theorem lifted (os : Os) (started : os.Started) (H : Type) (enc : TypeId × Value → H) :
    ReturnsInHanded {} Try.checked os 4 .any (Rows.sv39LeadsSpec.pre6 enc Try.prog Try.f4 Rows.sv39LeadsRow.domain false) (Rows.sv39LeadsSpec.post enc Try.prog Try.f4 false true false false) := by
  refine returnsInHanded_of_change (C := Try.checked) own started (by kernel_rfl) Try.func4
    (ChangeSpec.witness6 (enc := enc) (C := Try.checked) false ⟨#[], #[.agg #[.slice none 0 0], .int .u64 0, .int .u64 0, .int .i64 0, .int .u64 0, .int .i64 0], []⟩ 8 (by kernel_rfl) (by kernel_rfl) (by kernel_rfl) (by kernel_rfl)) ?_
  intro W base args ds gs before hval0 hW _ _
  have hval : ∀ (j : Nat) t v, Try.f4.params[j]? = some t → args[j]? = some v → Value.okWide Try.prog W .any base t v := hval0
  have hW' := hW
  obtain ⟨p, q, hA0, hV, rfl, hfz, hnd⟩ := hW
  have hA : DataW.TrodAll enc Try.prog W 0 (fun _ => true) true Try.f4.params.toList args.toList ds p := hA0
  rw [Try.params4] at hA hval
  obtain ⟨v0, vs0, d0, ds0, p0, q0, hargs, rfl, rfl, h0, r'0⟩ := trodAll_cons hA
  obtain ⟨v1, vs1, d1, ds1, p1, q1, rfl, rfl, rfl, h1, r'1⟩ := trodAll_cons r'0
  obtain ⟨v2, vs2, d2, ds2, p2, q2, rfl, rfl, rfl, h2, r'2⟩ := trodAll_cons r'1
  obtain ⟨v3, vs3, d3, ds3, p3, q3, rfl, rfl, rfl, h3, r'3⟩ := trodAll_cons r'2
  obtain ⟨v4, vs4, d4, ds4, p4, q4, rfl, rfl, rfl, h4, r'4⟩ := trodAll_cons r'3
  obtain ⟨v5, vs5, d5, ds5, p5, q5, rfl, rfl, rfl, h5, r'5⟩ := trodAll_cons r'4
  obtain ⟨rfl, rfl, rfl⟩ := trodAll_nil r'5
  obtain rfl : args = #[v0, v1, v2, v3, v4, v5] := by cases args; simp_all
  obtain ⟨a0, n0, c0, x0, rfl, k0⟩ := open_ram (hval 0 24 v0 rfl rfl) h0
  obtain ⟨a1, rfl, rfl, rfl, w1⟩ := open_int Try.underlying25 (hval 1 25 v1 rfl rfl) h1
  obtain ⟨a2, rfl, rfl, rfl, w2⟩ := open_int Try.underlying25 (hval 2 25 v2 rfl rfl) h2
  obtain ⟨a3, rfl, rfl, rfl, w3⟩ := open_int Try.underlying3 (hval 3 3 v3 rfl rfl) h3
  obtain ⟨a4, rfl, rfl, rfl, w4⟩ := open_int Try.underlying25 (hval 4 25 v4 rfl rfl) h4
  obtain ⟨a5, rfl, rfl, rfl, w5⟩ := open_int Try.underlying3 (hval 5 3 v5 rfl rfl) h5
  refine (walk a0 n0 c0 x0 a1 (wf_u64 w1) a2 (wf_u64 w2) a3 (wf_i64 w3) a4 (wf_u64 w4) a5 (wf_i64 w5) W k0).mono fun e W' ⟨he, hb⟩ => ?_
  subst he
  exact ⟨_, rfl, law_post hW' rfl rfl laid (by kernel_rfl) rfl Try.underlying4 hb⟩

theorem over : Rows.sv39LeadsRow.holds Try.pinned (OpenSpec.ofChange Rows.sv39LeadsSpec) :=
  OpenClaim.holds_of_wide 4 Try.f4 rfl rfl rfl rfl rfl rfl rfl ⟨rfl, rfl, rfl, rfl, rfl⟩ rfl rfl rfl rfl rfl (by kernel_rfl) Try.func4 (by kernel_rfl)
    (of_decide_eq_true (by kernel_rfl)) (by unfold Func.isWrapper; first | (rw [if_pos (by decide +kernel)]; kernel_rfl) | (rw [if_neg (by decide +kernel)]; exact ⟨rfl, rfl⟩))
    (fun os started H enc _ => lifted os started H enc)

theorem proved : Rows.Sv39LeadsSaid := over
#print axioms proved
end Go.Proofs.Ytocmningcpcmiaa.sv39Leads
