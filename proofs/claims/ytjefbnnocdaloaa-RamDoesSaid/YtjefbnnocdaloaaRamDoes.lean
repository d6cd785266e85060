/-
  The statement that says what memory tells, and becomes. For every memory, address, number, bytes. Conditions: none.
-/
import Derived.Test.YtjefbnnocdaloaaRows
import Derived.Test.YtjefbnnocdaloaaRamH
import Derived.Test.YtjefbnnocdaloaaLaw
import Derived.Test.YtjefbnnocdaloaaClass
import Derived.Deep.QuietTactic
import Derived.BigQuiet
import Derived.Deep.DeepCutAuto
set_option linter.unusedVariables false
set_option linter.unusedSimpArgs false
namespace Go.Proofs.Ytjefbnnocdaloaa.ramDoes
open Go.ChangeShapes Go.WideShapes Go.ChangeAt Go.RowKit

theorem walk_big (a : Option Addr) (n c : Nat) (x s y : Int) (v : Value) (hn : 70000 < n) (hm : n ≤ maxLen) (W : World) :
    Calls Try.prog 4 #[.agg #[.slice a n c], .int .u64 x, .int .i64 s, .int .u64 y, v] W fun e w' => e = .returned (.bool true) ∧ Below W.heap.size W w' := by
  unfold maxLen at hm
  have hn' : (70000 : Int) < (n : Int) := by omega
  clear hn
  go_enter Try.func4, Try.ntmps4
  go_wp2_with fail
  refine (heads_c _).mono ?_
  rintro e w6 ⟨rfl, g6⟩
  go_wp2_with fail
  go_ret
  exact ⟨rfl, ((Grew.refl W).alloc _).trans g6⟩

/-- What is known of a call that answers memory. -/
def Mem (f : FuncId) (args : Array Value) (ok : Bool) (zs : List Int) (w : World) : Prop :=
  Calls Try.prog f args w fun e w' => ∃ a' n' c', e = .returned (.tuple #[.agg #[.slice a' n' c'], .bool ok]) ∧ Hid (Buf w' (.slice a' n' c') zs) ∧ Grew w w'
def Tells (f : FuncId) (args : Array Value) (ok : Bool) (zs : List Int) (w : World) : Prop :=
  Calls Try.prog f args w fun e w' => ∃ u, e = .returned (.tuple #[u, .bool ok]) ∧ Hid (Buf w' u zs) ∧ Grew w w'
def Num (f : FuncId) (args : Array Value) (ok : Bool) (z : Int) (w : World) : Prop :=
  Calls Try.prog f args w fun e w' => e = .returned (.tuple #[.int .u64 z, .bool ok]) ∧ Grew w w'
def Tests (f : FuncId) (args : Array Value) (ok : Bool) (w : World) : Prop :=
  Calls Try.prog f args w fun e w' => e = .returned (.bool ok) ∧ Grew w w'

set_option maxRecDepth 100000 in
set_option maxHeartbeats 4000000 in
theorem walk_with (a : Option Addr) (n c : Nat) (x s y z : Int) (u : Value) (b0 b1 b2 b3 : Bool) (xs zw zb zf ys : List Int) (hn : n ≤ 70000) (W : World) (hb : Buf W (.slice a n c) xs) (hu : Buf W u ys)
    (r1 : ∀ w v, Grew W w → Buf w v xs → Num 8 #[.agg #[v], .int .u64 x, .int .i64 s] b0 z w)
    (r2 : ∀ w v, Grew W w → Buf w v xs → Num 13 #[.agg #[v], .int .u64 x, .int .i64 s] b0 z w)
    (r3 : ∀ w v, Grew W w → Buf w v xs → Mem 10 #[.agg #[v], .int .u64 x, .int .i64 s, .int .u64 y] b1 zw w)
    (r4 : ∀ w v, Grew W w → Buf w v xs → Mem 14 #[.agg #[v], .int .u64 x, .int .i64 s, .int .u64 y] b1 zw w)
    (r5 : ∀ w v, Grew W w → Buf w v xs → Tells 9 #[.agg #[v], .int .u64 x, .int .i64 s] b2 zb w)
    (r6 : ∀ w v, Grew W w → Buf w v xs → Tells 15 #[.agg #[v], .int .u64 x, .int .i64 s] b2 zb w)
    (r7 : ∀ w v, Grew W w → Buf w v xs → Mem 16 #[.agg #[v], .int .u64 x, u] b3 zf w)
    (r8 : ∀ w v, Grew W w → Buf w v xs → Mem 17 #[.agg #[v], .int .u64 x, u] b3 zf w)
    (r9 : ∀ w v, Grew W w → Buf w v xs → Tests 19 #[.agg #[v], .int .u64 x, .int .i64 s] b2 w)
    (r10 : ∀ w v, Grew W w → Buf w v xs → Tests 20 #[.agg #[v], .int .u64 x, .int .i64 s] b2 w) :
    Calls Try.prog 4 #[.agg #[.slice a n c], .int .u64 x, .int .i64 s, .int .u64 y, u] W fun e w' => e = .returned (.bool true) ∧ Below W.heap.size W w' := by
  have R1 := Lib.hid r1
  have R2 := Lib.hid r2
  have R3 := Lib.hid r3
  have R4 := Lib.hid r4
  have R5 := Lib.hid r5
  have R6 := Lib.hid r6
  have R7 := Lib.hid r7
  have R8 := Lib.hid r8
  have R9 := Lib.hid r9
  have R10 := Lib.hid r10
  have HB := Lib.hid hb
  have HU := Lib.hid hu
  have HN := Lib.hid hb.lenEq.1
  have hn' : (n : Int) ≤ 70000 := by omega
  clear r1 r2 r3 r4 r5 r6 r7 r8 r9 r10 hb hu
  go_enter Try.func4, Try.ntmps4
  go_upto_region 1 with fail
  have hA : Blk (W.alloc (.cells #[.slice a n c] 24)) W.heap.size #[.slice a n c] 24 := Blk.new W _ _ _ rfl
  have g0 : Grew W (W.alloc (.cells #[.slice a n c] 24)) := (Grew.refl W).alloc _
  generalize (W.alloc (.cells #[.slice a n c] 24)) = w0 at *
  have cA := hA.cell 0
  have cA' := (hA.alloc (.cells #[] 5)).cell 0
  have HB0 := Lib.hid (HB.out.grew g0)
  have HROW := Lib.hid (Row.lit w0 w0.heap.size (Nat.le_refl _) #[] [] rfl (Nat.zero_le _) _ rfl 0 rfl)
  have HLEN := Lib.hid (show ([] : List Int).length + xs.length ≤ 140737488355328 by rw [← HN.out]; simp; omega)
  go_upto_region 4 with (refine wpList_append_b (W := w0) rfl (.tmp 33) (.tmp 35) rfl (by exact (Grew.refl w0).alloc _) HROW.out (HB0.out.grew ((Grew.refl w0).alloc _)) (by rfl) (by rfl) HLEN.out ?_; intro v1 w1 HR1 g1 q1; clear q1; have HB1 := Lib.hid (HR1.out.buf HB0.out.ok); obtain ⟨ao, no, co, eo⟩ : ∃ a n k, v1 = .slice a n k := (let ⟨a, k, e, _⟩ := HB1.out.shape; ⟨a, _, k, e⟩); subst eo)
  have hA2 : Blk (w1.alloc (.cells #[.slice ao no co] 24)) W.heap.size #[.slice a n c] 24 := (hA.grew g1).alloc _
  have hO2 : Blk (w1.alloc (.cells #[.slice ao no co] 24)) w1.heap.size #[.slice ao no co] 24 := Blk.new _ _ _ _ rfl
  have G2 : Grew W (w1.alloc (.cells #[.slice ao no co] 24)) := (g0.trans g1).alloc _
  have HO2 := Lib.hid (takes_box HB1.out #[.slice ao no co] 24)
  generalize (w1.alloc (.cells #[.slice ao no co] 24)) = w2 at *
  generalize w1.heap.size = O at *
  have HR2 := Lib.hid (HB.out.grew G2)
  clear cA cA' HROW hA
  have D2 := Grew.refl w2
  have cO2 := (hO2.grew D2).cell 0
  go_wp2_with fail
  refine Calls.mono (R1.out _ _ (G2.trans D2) (HO2.out.grew D2)) ?_
  rintro e w3 ⟨rfl, g3⟩
  have D3 := D2.trans g3
  clear cO2
  have cA3 := (hA2.grew D3).cell 0
  go_wp2_with fail
  refine Calls.mono (R2.out _ _ (G2.trans D3) (HR2.out.grew D3)) ?_
  rintro e w4 ⟨rfl, g4⟩
  have D4 := D3.trans g4
  clear cA3
  have cO4 := (hO2.grew D4).cell 0
  go_wp2_with fail
  refine Calls.mono (R3.out _ _ (G2.trans D4) (HO2.out.grew D4)) ?_
  rintro e w5 ⟨aC, nC, cC, rfl, hC, g5⟩
  have D5 := D4.trans g5
  clear cO4
  go_upto_region 7 with fail
  have hbC : Blk (w5.alloc (.cells #[.slice aC nC cC] 24)) w5.heap.size #[.slice aC nC cC] 24 := Blk.new _ _ _ _ rfl
  have D6 : Grew w2 (w5.alloc (.cells #[.slice aC nC cC] 24)) := D5.alloc _
  have HC := Lib.hid (takes_box hC.out #[.slice aC nC cC] 24)
  have S6 : Grew w5 (w5.alloc (.cells #[.slice aC nC cC] 24)) := (Grew.refl w5).alloc _
  generalize (w5.alloc (.cells #[.slice aC nC cC] 24)) = w6 at *
  generalize w5.heap.size = BC at *
  have cA6 := (hA2.grew D6).cell 0
  go_wp2_with fail
  refine Calls.mono (R4.out _ _ (G2.trans D6) (HR2.out.grew D6)) ?_
  rintro e w7 ⟨aD, nD, cD, rfl, hD, g7⟩
  have D7 := D6.trans g7
  clear cA6
  go_upto_region 8 with fail
  have hbD : Blk (w7.alloc (.cells #[.slice aD nD cD] 24)) w7.heap.size #[.slice aD nD cD] 24 := Blk.new _ _ _ _ rfl
  have D8 : Grew w2 (w7.alloc (.cells #[.slice aD nD cD] 24)) := D7.alloc _
  have HD := Lib.hid (takes_box hD.out #[.slice aD nD cD] 24)
  have S8 : Grew w7 (w7.alloc (.cells #[.slice aD nD cD] 24)) := (Grew.refl w7).alloc _
  generalize (w7.alloc (.cells #[.slice aD nD cD] 24)) = w8 at *
  generalize w7.heap.size = BD at *
  have cO8 := (hO2.grew D8).cell 0
  go_wp2_with fail
  refine Calls.mono (R5.out _ _ (G2.trans D8) (HO2.out.grew D8)) ?_
  rintro e w9 ⟨ug, rfl, hug, g9⟩
  have D9 := D8.trans g9
  clear cO8
  have cA9 := (hA2.grew D9).cell 0
  go_wp2_with fail
  refine Calls.mono (R6.out _ _ (G2.trans D9) (HR2.out.grew D9)) ?_
  rintro e w10 ⟨ui, rfl, hui, g10⟩
  have D10 := D9.trans g10
  clear cA9
  have cO10 := (hO2.grew D10).cell 0
  go_wp2_with fail
  refine Calls.mono (R7.out _ _ (G2.trans D10) (HO2.out.grew D10)) ?_
  rintro e w11 ⟨aK, nK, cK, rfl, hK, g11⟩
  have D11 := D10.trans g11
  clear cO10
  go_upto_region 11 with fail
  have hbK : Blk (w11.alloc (.cells #[.slice aK nK cK] 24)) w11.heap.size #[.slice aK nK cK] 24 := Blk.new _ _ _ _ rfl
  have D12 : Grew w2 (w11.alloc (.cells #[.slice aK nK cK] 24)) := D11.alloc _
  have HK := Lib.hid (takes_box hK.out #[.slice aK nK cK] 24)
  have S12 : Grew w11 (w11.alloc (.cells #[.slice aK nK cK] 24)) := (Grew.refl w11).alloc _
  generalize (w11.alloc (.cells #[.slice aK nK cK] 24)) = w12 at *
  generalize w11.heap.size = BK at *
  have cA12 := (hA2.grew D12).cell 0
  go_wp2_with fail
  refine Calls.mono (R8.out _ _ (G2.trans D12) (HR2.out.grew D12)) ?_
  rintro e w13 ⟨aP, nP, cP, rfl, hP, g13⟩
  have D13 := D12.trans g13
  clear cA12
  go_upto_region 12 with fail
  have hbP : Blk (w13.alloc (.cells #[.slice aP nP cP] 24)) w13.heap.size #[.slice aP nP cP] 24 := Blk.new _ _ _ _ rfl
  have D14 : Grew w2 (w13.alloc (.cells #[.slice aP nP cP] 24)) := D13.alloc _
  have HP := Lib.hid (takes_box hP.out #[.slice aP nP cP] 24)
  have S14 : Grew w13 (w13.alloc (.cells #[.slice aP nP cP] 24)) := (Grew.refl w13).alloc _
  generalize (w13.alloc (.cells #[.slice aP nP cP] 24)) = w14 at *
  generalize w13.heap.size = BP at *
  have T1 := g13.trans S14
  have T2 := (g11.trans S12).trans T1
  have T3 := (g9.trans g10).trans T2
  have T4 := (g7.trans S8).trans T3
  have kC := hbC.grew T4
  have kD := hbD.grew T3
  have kK := hbK.grew T1
  have HC14 := Lib.hid (HC.out.grew T4)
  have HD14 := Lib.hid (HD.out.grew T3)
  have HK14 := Lib.hid (HK.out.grew T1)
  have Hug := Lib.hid (hug.out.grew (g10.trans T2))
  have Hui := Lib.hid (hui.out.grew T2)
  clear T1 T2 T3 T4
  have cC := kC.cell 0
  have cD := kD.cell 0
  have e0 : ∀ p : Int, (p == p) = true := fun p => by simp
  have e1 : ∀ p : Bool, (p == p) = true := fun p => by simp
  go_wp2_with fail
  refine (same_b _ HC14.out HD14.out rfl).mono ?_
  rintro e w15 ⟨rfl, g15⟩
  clear cC cD
  go_wp2_with fail
  refine (same01_b _ (Hug.out.grew g15) (Hui.out.grew g15) rfl).mono ?_
  rintro e w16 ⟨rfl, rfl⟩
  have cK := (kK.grew g15).cell 0
  have cP := (hbP.grew g15).cell 0
  go_wp2_with fail
  refine (same_b _ (HK14.out.grew g15) (HP.out.grew g15) rfl).mono ?_
  rintro e w17 ⟨rfl, g17⟩
  clear cK cP
  go_upto_region 14 with fail
  have D17 := (D14.trans g15).trans g17
  have G17 := G2.trans D17
  have kA := hA2.grew D17
  have kO := hO2.grew D17
  have HO17 := Lib.hid (HO2.out.grew D17)
  have HR17 := Lib.hid (HR2.out.grew D17)
  have yA : ∀ z : Over w17, z.w.cell? ⟨W.heap.size, 0, none⟩ = some (.slice a n c) := fun z => kA.overCell 0 _ rfl z
  have yO : ∀ z : Over w17, z.w.cell? ⟨O, 0, none⟩ = some (.slice ao no co) := fun z => kO.overCell 0 _ rfl z
  have hbb : (b2 == b2) = true := e1 b2
  refine region_over (by kernel_rfl) (by kernel_rfl) ?_
  repeat (first
    | go_big_quiet_step ((first | (go_at_call 19; exact over_grew (R9.out _ _ (G17.trans (Over.g _)) (HO17.out.grew (Over.g _)))) | (go_at_call 20; exact over_grew (R10.out _ _ (G17.trans (Over.g _)) (HR17.out.grew (Over.g _)))) | (go_at_call 12; exact over_grew (same_b _ (HO17.out.grew (Over.g _)) (HR17.out.grew (Over.g _)) rfl)) | (go_at_call 7; exact over_grew (heads_c _))))
    | quiet_step ((first | (go_at_call 19; exact over_grew (R9.out _ _ (G17.trans (Over.g _)) (HO17.out.grew (Over.g _)))) | (go_at_call 20; exact over_grew (R10.out _ _ (G17.trans (Over.g _)) (HR17.out.grew (Over.g _)))) | (go_at_call 12; exact over_grew (same_b _ (HO17.out.grew (Over.g _)) (HR17.out.grew (Over.g _)) rfl)) | (go_at_call 7; exact over_grew (heads_c _)))))
  refine wpQuiet_nil ?_
  intro z
  have G18 := G17.trans z.g
  generalize z.w = w18 at *
  clear yA yO z
  go_wp2_with fail
  go_ret
  exact ⟨rfl, G18⟩

theorem walk (a : Option Addr) (n c : Nat) (xs : List Int) (x : Int) (hx : 0 ≤ x ∧ x < 18446744073709551616) (s : Int) (hs : -9223372036854775808 ≤ s ∧ s ≤ 9223372036854775807) (y : Int) (hy : 0 ≤ y ∧ y < 18446744073709551616) (u : Value) (ys : List Int) (W : World) (hb : Buf W (.slice a n c) xs) (hu : Buf W u ys) :
    Calls Try.prog 4 #[.agg #[.slice a n c], .int .u64 x, .int .i64 s, .int .u64 y, u] W fun e w' => e = .returned (.bool true) ∧ Below W.heap.size W w' := by
  obtain ⟨hn, _⟩ := hb.lenEq
  by_cases h7 : 70000 < n
  · exact walk_big a n c x s y u h7 (by rw [hn]; exact hb.len) W
  have hl : xs.length ≤ 140737488355328 := by omega
  refine walk_with a n c x s y (readV xs x s) u (sizeV s && insideV xs.length x s) (sizeV s && insideV xs.length x s) (insideV xs.length x s) (insideV xs.length x ys.length) xs (writeV xs x s y) (bytesV xs x s) (fillV xs x ys) ys (by omega) W hb hu
    (fun w v g h => read_c x s hx.1 hx.2 hs.1 hs.2 w h) (fun w v g h => refRead_c x s hx.1 hx.2 hs.1 hs.2 w h hl) (fun w v g h => ?_) (fun w v g h => ?_)
    (fun w v g h => bytes_c x s hx.1 hx.2 hs.1 hs.2 w h hl) (fun w v g h => refBytes_c x s hx.1 hx.2 hs.1 hs.2 w h hl) (fun w v g h => ?_) (fun w v g h => ?_) (fun w v g h => ?_) (fun w v g h => ?_)
  · refine (write_c x s y hx.1 hx.2 hy.1 hy.2 w h hl).mono ?_
    rintro e w' ⟨gg, rfl, hr, gw⟩
    exact ⟨_, _, _, rfl, hr.buf (writeV_ok _ _ _ hb.ok), gw⟩
  · refine (refWrite_c x s y hx.1 hx.2 hy.1 hy.2 w h hl).mono ?_
    rintro e w' ⟨r, rfl, hr, gw⟩
    obtain ⟨a', c', rfl, _, _⟩ := hr.shape
    exact ⟨_, _, _, rfl, hr, gw⟩
  · refine (fill_c x hx.1 hx.2 w h (hu.grew g) hl).mono ?_
    rintro e w' ⟨gg, rfl, hr, gw⟩
    exact ⟨_, _, _, rfl, hr.buf (fillV_ok _ hb.ok hu.ok), gw⟩
  · refine (refFill_c x hx.1 hx.2 w h (hu.grew g) hl).mono ?_
    rintro e w' ⟨r, rfl, hr, gw⟩
    obtain ⟨a', c', rfl, _, _⟩ := hr.shape
    exact ⟨_, _, _, rfl, hr, gw⟩
  · obtain ⟨a', c', rfl, _, _⟩ := h.shape
    exact inside_c a' xs.length c' x s hb.len hx.1 hx.2 hs.1 hs.2 w
  · obtain ⟨a', c', rfl, _, _⟩ := h.shape
    exact refInside_c a' xs.length c' x s hb.len hx.1 hx.2 hs.1 hs.2 w
set_option maxRecDepth 100000 in
theorem lifted (os : Os) (started : os.Started) (H : Type) (enc : TypeId × Value → H) :
    ReturnsInHanded {} Try.checked os 4 .any (Rows.ramDoesSpec.pre6 enc Try.prog Try.f4 Rows.ramDoesRow.domain false) (Rows.ramDoesSpec.post enc Try.prog Try.f4 false true false false) := by
  refine returnsInHanded_of_change (C := Try.checked) own started (by kernel_rfl) Try.func4
    (ChangeSpec.witness6 (enc := enc) (C := Try.checked) false ⟨#[], #[.agg #[.slice none 0 0], .int .u64 0, .int .i64 0, .int .u64 0, .slice none 0 0], []⟩ 8 (by kernel_rfl) (by kernel_rfl) (by kernel_rfl) (by kernel_rfl)) ?_
  intro W base args ds gs before hval0 hW _ _
  have hval : ∀ (j : Nat) t v, Try.f4.params[j]? = some t → args[j]? = some v → Value.okWide Try.prog W .any base t v := hval0
  have hW' := hW
  obtain ⟨p, q, hA0, hV, rfl, hfz, hnd⟩ := hW
  have hA : DataW.TrodAll enc Try.prog W 0 (fun _ => true) true Try.f4.params.toList args.toList ds p := hA0
  rw [Try.params4] at hA hval
  obtain ⟨v0, vs0, d0, ds0, p0, q0, hargs, rfl, rfl, h0, r'0⟩ := trodAll_cons hA
  obtain ⟨v1, vs1, d1, ds1, p1, q1, rfl, rfl, rfl, h1, r'1⟩ := trodAll_cons r'0
  obtain ⟨v2, vs2, d2, ds2, p2, q2, rfl, rfl, rfl, h2, r'2⟩ := trodAll_cons r'1
  obtain ⟨v3, vs3, d3, ds3, p3, q3, rfl, rfl, rfl, h3, r'3⟩ := trodAll_cons r'2
  obtain ⟨v4, vs4, d4, ds4, p4, q4, rfl, rfl, rfl, h4, r'4⟩ := trodAll_cons r'3
  obtain ⟨rfl, rfl, rfl⟩ := trodAll_nil r'4
  obtain rfl : args = #[v0, v1, v2, v3, v4] := by cases args; simp_all
  obtain ⟨a0, n0, c0, x0, rfl, k0⟩ := open_ram (hval 0 24 v0 rfl rfl) h0
  obtain ⟨a1, rfl, rfl, rfl, w1⟩ := open_int Try.underlying25 (hval 1 25 v1 rfl rfl) h1
  obtain ⟨a2, rfl, rfl, rfl, w2⟩ := open_int Try.underlying3 (hval 2 3 v2 rfl rfl) h2
  obtain ⟨a3, rfl, rfl, rfl, w3⟩ := open_int Try.underlying25 (hval 3 25 v3 rfl rfl) h3
  obtain ⟨x4, k4⟩ := open_buf Try.underlying22 Try.underlying5 (by kernel_rfl) (hval 4 22 v4 rfl rfl) h4
  refine (walk a0 n0 c0 x0 a1 (wf_u64 w1) a2 (wf_i64 w2) a3 (wf_u64 w3) v4 x4 W k0 k4).mono fun e W' ⟨he, hb⟩ => ?_
  subst he
  exact ⟨_, rfl, law_post hW' rfl rfl laid (by kernel_rfl) rfl Try.underlying4 hb⟩

theorem over : Rows.ramDoesRow.holds Try.pinned (OpenSpec.ofChange Rows.ramDoesSpec) :=
  OpenClaim.holds_of_wide 4 Try.f4 rfl rfl rfl rfl rfl rfl rfl ⟨rfl, rfl, rfl, rfl, rfl⟩ rfl rfl rfl rfl rfl (by kernel_rfl) Try.func4 (by kernel_rfl)
    (of_decide_eq_true (by kernel_rfl)) (by unfold Func.isWrapper; first | (rw [if_pos (by decide +kernel)]; kernel_rfl) | (rw [if_neg (by decide +kernel)]; exact ⟨rfl, rfl⟩))
    (fun os started H enc _ => lifted os started H enc)

theorem proved : Rows.RamDoesSaid := over
#print axioms proved
end Go.Proofs.Ytjefbnnocdaloaa.ramDoes
