/-
  The document's own Receive of a frame for which there is a descriptor of the controller's own.
-/
import Derived.Test.YtoehdhhodidehaaRows
import Derived.Test.YtoehdhhodidehaaNcRv
import Derived.Test.YtoehdhhodidehaaNcRt
import Derived.Test.YtoehdhhodidehaaPart
import Derived.Test.YtoehdhhodidehaaClass
import Derived.Test.YtoehdhhodidehaaDeps
import Derived.WalkKit
import Derived.Outline
import Derived.Handy
import Derived.StillTailTactics
import Derived.Deep.QuietTactic
import Derived.BigQuiet
import Derived.Deep.DeepCutAuto
import Derived.Deep.RegionHeld3
import Derived.Great.BuildSlice
import Derived.Deep.WholeRow
import Derived.Lib.SliceRun
import Derived.BigFrame
set_option maxRecDepth 4000
set_option linter.unusedVariables false
set_option linter.unusedSimpArgs false
namespace Go.Proofs.Ytoehdhhodidehaa
open Go.RowKit

theorem dfh (c : Nat → Int) : dropC (failC (headr c)) = headr (dropC (failC c)) := by
  funext i
  by_cases h1 : i = 1
  · subst h1; rfl
  · by_cases h9 : i = 9
    · subst h9; rfl
    · by_cases h12 : i = 12
      · subst h12; rfl
      · by_cases h11 : i = 11
        · subst h11; rfl
        · simp [dropC, failC, headr, cntC, upd, h1, h9, h12, h11]
theorem or_headr (c : Nat → Int) : upd (headr c) 1 (orB 2 (c 1)) = headr (upd c 1 (orB 2 (c 1))) := by
  funext i
  by_cases h1 : i = 1
  · subst h1; rfl
  · by_cases h9 : i = 9
    · subst h9; rfl
    · simp [headr, upd, h1, h9]
theorem over_bk {P : Program} {f : FuncId} {args : Array Value} {W : World} {z : Over W} {v : Value}
    (h : Calls P f args z.w fun e w' => e = .returned v ∧ w' = z.w) : Calls P f args z.w fun e w'' => e = .returned v ∧ ∃ z' : Over W, w'' = z'.w :=
  h.mono fun _ _ ⟨he, hg⟩ => ⟨he, z, hg⟩
/-- What the operations of a region give. -/
def rcR (W : World) (a : Option Addr) (n k : Nat) (AT : Int) (fa : Option Addr) (fl fk : Nat) (ws zs1 : List Int) (b1 : Bool) : (Nat → Value) → Nat → Value → World → Prop
  | _, 0, v, _ => v = .agg #[.slice a n k]
  | _, 1, v, _ => v = .int .u64 AT
  | _, 2, v, _ => v = .int .u64 (AT + 8)
  | _, 3, v, _ => v = .slice fa fl fk
  | _, 4, v, _ => v = .int .i64 fl
  | _, 5, v, _ => v = .int .u64 fl
  | _, 6, v, w => ∃ pb pk, v = .slice pb 2 pk ∧ Buf w (.slice pb 2 pk) ws
  | _, 7, v, w => ∃ qb ql qk, v = .tuple #[.agg #[.slice qb ql qk], .bool b1] ∧ Buf w (.slice qb ql qk) zs1
  | _, 8, v, w => ∃ qb ql qk, v = .tuple #[.agg #[.slice qb ql qk], .bool b1] ∧ Buf w (.slice qb ql qk) zs1
  | _, 9, v, w => ∃ qb ql qk, v = .agg #[.slice qb ql qk] ∧ Buf w (.slice qb ql qk) zs1
  | _, 10, v, _ => v = .bool b1
  | _, 11, v, w => ∃ b0, v = .pointer (some ⟨b0, 0, none⟩) ∧ W.heap.size ≤ b0 ∧ Blk w b0 #[.slice none 0 0] 27
  | _, _, _, _ => True
theorem rcR_grew {W : World} {a : Option Addr} {n k : Nat} {AT : Int} {fa : Option Addr} {fl fk : Nat} {ws zs1 : List Int} {b1 : Bool} : ∀ vs j v w w', Grew w w' → rcR W a n k AT fa fl fk ws zs1 b1 vs j v w → rcR W a n k AT fa fl fk ws zs1 b1 vs j v w'
  | _, 0, _, _, _, _, h => h
  | _, 1, _, _, _, _, h => h
  | _, 2, _, _, _, _, h => h
  | _, 3, _, _, _, _, h => h
  | _, 4, _, _, _, _, h => h
  | _, 5, _, _, _, _, h => h
  | _, 6, _, _, _, g, ⟨b0, b1, e, h0⟩ => ⟨b0, b1, e, h0.grew g⟩
  | _, 7, _, _, _, g, ⟨b0, b1, b2, e, h0⟩ => ⟨b0, b1, b2, e, h0.grew g⟩
  | _, 8, _, _, _, g, ⟨b0, b1, b2, e, h0⟩ => ⟨b0, b1, b2, e, h0.grew g⟩
  | _, 9, _, _, _, g, ⟨b0, b1, b2, e, h0⟩ => ⟨b0, b1, b2, e, h0.grew g⟩
  | _, 10, _, _, _, _, h => h
  | _, 11, _, _, _, g, ⟨b0, e, h0, h1⟩ => ⟨b0, e, h0, h1.grew g⟩
  | _, _ + 12, _, _, _, _, _ => True.intro
theorem rcR_lt {W : World} {a : Option Addr} {n k : Nat} {AT : Int} {fa : Option Addr} {fl fk : Nat} {ws zs1 : List Int} {b1 : Bool} : ∀ vs j v w, ([11] : List Nat).contains j = true → rcR W a n k AT fa fl fk ws zs1 b1 vs j v w → ∀ g, leadsTo v = some g → g < w.heap.size
  | _, 0, _, _, hc, _ => by simp at hc
  | _, 1, _, _, hc, _ => by simp at hc
  | _, 2, _, _, hc, _ => by simp at hc
  | _, 3, _, _, hc, _ => by simp at hc
  | _, 4, _, _, hc, _ => by simp at hc
  | _, 5, _, _, hc, _ => by simp at hc
  | _, 6, _, _, hc, _ => by simp at hc
  | _, 7, _, _, hc, _ => by simp at hc
  | _, 8, _, _, hc, _ => by simp at hc
  | _, 9, _, _, hc, _ => by simp at hc
  | _, 10, _, _, hc, _ => by simp at hc
  | _, 11, _, w, _, ⟨b0, e, h0, h1⟩ => by subst e; intro g hg; simp only [leadsTo, Option.some.injEq] at hg; subst hg; exact h1.lt
  | _, _ + 12, _, _, hc, _ => by simp at hc
theorem rcR_loc {W : World} {a : Option Addr} {n k : Nat} {AT : Int} {fa : Option Addr} {fl fk : Nat} {ws zs1 : List Int} {b1 : Bool} : ∀ (vs vs' : Nat → Value) j v w, (∀ k ∈ ([[], [], [], [], [], [], [], [], [], [], [], []] : List (List Nat)).getD j [], vs k = vs' k) → rcR W a n k AT fa fl fk ws zs1 b1 vs j v w → rcR W a n k AT fa fl fk ws zs1 b1 vs' j v w
  | _, _, 0, _, _, _, h => h
  | _, _, 1, _, _, _, h => h
  | _, _, 2, _, _, _, h => h
  | _, _, 3, _, _, _, h => h
  | _, _, 4, _, _, _, h => h
  | _, _, 5, _, _, _, h => h
  | _, _, 6, _, _, _, h => h
  | _, _, 7, _, _, _, h => h
  | _, _, 8, _, _, _, h => h
  | _, _, 9, _, _, _, h => h
  | _, _, 10, _, _, _, h => h
  | _, _, 11, _, _, _, h => h
  | _, _, _ + 12, _, _, _, _ => True.intro
theorem lw_rmw {ops : Array Oper} {rest : List Oper} {o : Oper} {a : Act} {w : World} {Q : Exit → Act → World → Prop} (hw : Region.wanted o (yielded ops a.tmps) = true) (x : Operand) (ho : o.op = .load 27 x) (d : Option Tmp) (hd : o.dst = d) {g : Nat} {u : Value} {T : TypeId}
    (k : Blk w g #[u] T) (hx : a.eval x = .pointer (some ⟨g, 0, none⟩)) (h : wpList Try.prog ops Q rest (a.put d (.agg #[u])) w) : wpList Try.prog ops Q (o :: rest) a w := by
  subst hd
  exact BigFrame.wpList_want hw fun K hK => wp_load_row _ x ho g hx T #[u] (0, 0) _ k Try.underlying27 rfl rmInfo (hK _ _ h)
set_option maxHeartbeats 8000000 in
theorem rRecv_bad {c : Nat → Int} {m : List Int} {a1 : Option Addr} {j : Nat} {a : Option Addr} {n k : Nat} {xs : List Int} {fa : Option Addr} {fk : Nat} {fs : List Int} {w : World} (hN : Buf w (.slice a1 m.length j) m) (hM : Buf w (.slice a n k) xs) (hF : Buf w (.slice fa fs.length fk) fs) (hl : xs.length ≤ 140737488355328) (h6 : m.length = 6) (hc : ROk c) (h1 : ¬ (fs.length : Int) < 14) (h2 : ¬ 1514 < (fs.length : Int)) (u0 : (c 0 / 2 % 2 == 0) = false) (hb : wantedB c m fs = true) (u9 : (c 9 == c 10) = false) (hin : insideV xs.length (atR c) 16 = true) (ho : ownB (bytesV xs (atR c) 16) = true) (hf : (decide (lenV (bytesV xs (atR c) 16) < (fs.length : Int)) || !insideV xs.length (adrV (bytesV xs (atR c) 16)) (fs.length : Int)) = true) : Calls Try.prog 28 #[ncV c (.slice a1 6 j), .agg #[.slice a n k], .slice fa fs.length fk] w fun e w' => ∃ a1 k1 a2 n2 k2, e = .returned (.tuple #[ncV (headr (dropC (failC c))) (.slice a1 6 k1), .agg #[.slice a2 n2 k2], .bool false]) ∧ Hid (Buf w' (.slice a1 6 k1) m) ∧ Hid (Buf w' (.slice a2 n2 k2) (writeV xs (atR c + 10) 4 (bothV (bytesV xs (atR c) 16) 4))) ∧ Grew w w' := by
  have hC := rCheck_c c a1 6 j
  rw [ok_chk hc] at hC
  have HC := Lib.hid hC
  rw [h6] at hN
  have hWa := fun (w : World) (h : Buf w (.slice a1 6 j) m) (hf : Buf w (.slice fa fs.length fk) fs) (hl : 6 ≤ fs.length) => wanted_c hc.r0.1 hc.r0.2 h hf hl
  have q2 : (c 0).tdiv 2 = c 0 / 2 := Int.tdiv_eq_ediv_of_nonneg hc.r0.1
  have e2 : (c 0 / 2).tmod 2 = c 0 / 2 % 2 := Int.tmod_eq_emod_of_nonneg (by have := hc.r0.1; omega)
  have qw : wrap64 (c 0 / 2) = c 0 / 2 := IntWalk.wrap64_in _ (by have := hc.r0; omega)
  have h14 : 6 ≤ fs.length := by omega
  have HWa := Lib.hid (fun (w : World) (h : Buf w (.slice a1 6 j) m) (hf : Buf w (.slice fa fs.length fk) fs) => (show Calls _ _ _ _ fun e w' => e = .returned (.bool true) ∧ Grew w w' from hb ▸ hWa w h hf h14))
  have d1 : decide ((fs.length : Int) < 14) = false := decide_eq_false h1
  have d2 : decide (1514 < (fs.length : Int)) = false := decide_eq_false h2
  clear hWa hb h14 h1 h2
  have r7 := hc.r7
  have r8 := hc.r8
  have r9 := hc.r9
  have q1 : IntKind.u64.wrap (c 9) = c 9 := IntWalk.u64_in _ (by omega)
  have q3 : IntKind.u64.wrap (16 * c 9) = 16 * c 9 := IntWalk.u64_in _ (by omega)
  have q4 : IntKind.u64.wrap (c 7 + 16 * c 9) = c 7 + 16 * c 9 := IntWalk.u64_in _ (by omega)
  have hBy := Lib.hid (fun (w : World) (h : Buf w (.slice a n k) xs) => refBytes_c (c 7 + 16 * c 9) 16 (by omega) (by omega) (by decide) (by decide) w h hl)
  have hA : atR c = c 7 + 16 * c 9 := rfl
  rw [hA] at hin
  rw [hin] at hBy
  rw [hA] at hf ⊢
  have hok := bytesV_ok hM.ok (c 7 + 16 * c 9) 16
  have h16 := bytesV_16 hin
  rw [hA] at ho
  rw [own_flag hok h16] at ho
  generalize bytesV xs (c 7 + 16 * c 9) 16 = ds at *
  have hd := hok.getD 10
  have d0 : (ds.getD 10 0).tmod 2 = ds.getD 10 0 % 2 := Int.tmod_eq_emod_of_nonneg hd.1
  have v0 : (ds.getD 10 0 % 2 == 0) = false := by
    unfold bitB at ho
    rw [Int.ediv_one] at ho
    simp only [beq_eq_false_iff_ne, beq_iff_eq, ne_eq] at ho ⊢
    omega
  have hpl := parts_lt hok h16
  have hG8 := Lib.hid (fun (w : World) (v : Value) (h : Buf w v (cutL ds 8 10)) => refGet_c false (hok.cut 8 10) (by rw [cutL_length (by decide) (by omega)]; decide) w h.bytes)
  have hG0 := Lib.hid (fun (w : World) (v : Value) (h : Buf w v (cutL ds 0 8)) => refGet_c false (hok.cut 0 8) (by rw [cutL_length (by decide) (by omega)]; decide) w h.bytes)
  change Hid (∀ w v, Buf w v (cutL ds 8 10) → Calls _ _ _ w fun e w' => e = .returned (.int .u64 (lenV ds)) ∧ w' = w) at hG8
  change Hid (∀ w v, Buf w v (cutL ds 0 8) → Calls _ _ _ w fun e w' => e = .returned (.int .u64 (adrV ds)) ∧ w' = w) at hG0
  have en := hM.lenEq.1
  have hfl : fs.length ≤ 1514 := by have := of_decide_eq_false d2; omega
  have hIn0 := fun (w : World) => refInside_c a n k (adrV ds) (fs.length : Int) (by unfold maxLen; omega) hpl.1.1 hpl.1.2 (by omega) (by omega) w
  rw [show insideV n (adrV ds) (fs.length : Int) = insideV xs.length (adrV ds) (fs.length : Int) by rw [en]] at hIn0
  have hIn := Lib.hid hIn0
  clear hIn0
  have hws : IntKind.i64.wrap (lenV ds) = lenV ds := IntWalk.i64_in _ (by omega)
  have q5 : IntKind.i64.wrap (c 9 + 1) = c 9 + 1 := IntWalk.i64_in _ (by omega)
  have q6 : (c 9 + 1).tmod (c 8) = (c 9 + 1) % c 8 := Int.tmod_eq_emod_of_nonneg (by omega)
  have q7 : c 8 ≠ 0 := by omega
  have q8 : (c 8 == 0) = false := by simpa using q7
  have HQ4 := Lib.hid (And.intro q5 (And.intro q6 (And.intro q7 q8)))
  have hDo := Lib.hid (fun (w : World) (b : Option Addr) (i : Nat) (h : Buf w (.slice a n k) xs) (hD : Buf w (.slice b ds.length i) ds) => rdone_c (x := (c 7 + 16 * c 9)) (st := 4) (by omega) (by omega) (by decide) (by decide) h hD h16 hl)
  rw [← done4 hok h16 (by decide) (by decide)] at hDo
  have hWV : fillV xs ((c 7 + 16 * c 9) + 10) (putL (bothV ds 4) 4 false) = writeV xs ((c 7 + 16 * c 9) + 10) 4 (bothV ds 4) := rfl
  rw [hWV] at hDo
  clear hWV
  have hWr := Lib.hid (fun (w : World) => rwrong_c (c := headr c) hc.r12.1 hc.r12.2 hc.r1.1 hc.r1.2 a1 6 j w)
  have hoR : 0 ≤ orB 4 (c 1) ∧ orB 4 (c 1) < 16 := orB_lt (by simp) hc.r1.1 hc.r1.2
  have hDr := Lib.hid (fun (w : World) => rdrop_c (c := failC (headr c)) hc.r11.1 hc.r11.2 hoR.1 hoR.2 a1 6 j w)
  rw [dfh c] at hDr
  generalize writeV xs ((c 7 + 16 * c 9) + 10) 4 (bothV ds 4) = ys at *
  generalize hf0 : ds.getD 10 0 = f0 at *
  have Hf0 := Lib.hid hf0
  have HD0 := Lib.hid (And.intro d0 v0)
  have H16 := Lib.hid h16
  have HWS := Lib.hid hws
  have HC0 := Lib.hid hc
  have HN := Lib.hid hN
  have HM := Lib.hid hM
  have HF := Lib.hid hF
  generalize hsz : lenV ds = sz at *
  generalize had : adrV ds = ad at *
  generalize hiv : insideV xs.length ad (fs.length : Int) = iv at *
  clear hC hN hM hF hl hc h6 hA hin ho hok h16 hd d0 v0 hf0 hpl hws q5 q6 q7 q8 r7 r8 r9 en hfl hsz had hiv hoR
  cases d3 : decide (sz < (fs.length : Int))
  case true =>
    clear hf hIn
    go_enter Try.func28, Try.ntmps28
    go_upto_region 1 with fail
    have kN : Blk ((((w.alloc (.cells (ncA c (.slice a1 6 j)) 25)).alloc (.cells #[.slice a n k] 27)).alloc (.cells zeroN 25)).alloc (.cells #[.slice none 0 0] 27)) w.heap.size (ncA c (.slice a1 6 j)) 25 := (((Blk.new w (ncA c (.slice a1 6 j)) 25 _ rfl).alloc (.cells #[.slice a n k] 27)).alloc (.cells zeroN 25)).alloc (.cells #[.slice none 0 0] 27)
    have kM : Blk ((((w.alloc (.cells (ncA c (.slice a1 6 j)) 25)).alloc (.cells #[.slice a n k] 27)).alloc (.cells zeroN 25)).alloc (.cells #[.slice none 0 0] 27)) (w.heap.size + 1) #[.slice a n k] 27 := ((Blk.new (w.alloc (.cells (ncA c (.slice a1 6 j)) 25)) #[.slice a n k] 27 _ (by simp)).alloc (.cells zeroN 25)).alloc (.cells #[.slice none 0 0] 27)
    have kR : Blk ((((w.alloc (.cells (ncA c (.slice a1 6 j)) 25)).alloc (.cells #[.slice a n k] 27)).alloc (.cells zeroN 25)).alloc (.cells #[.slice none 0 0] 27)) (w.heap.size + 2) zeroN 25 := (Blk.new ((w.alloc (.cells (ncA c (.slice a1 6 j)) 25)).alloc (.cells #[.slice a n k] 27)) zeroN 25 _ (by simp)).alloc (.cells #[.slice none 0 0] 27)
    have kQ : Blk ((((w.alloc (.cells (ncA c (.slice a1 6 j)) 25)).alloc (.cells #[.slice a n k] 27)).alloc (.cells zeroN 25)).alloc (.cells #[.slice none 0 0] 27)) (w.heap.size + 3) #[.slice none 0 0] 27 := Blk.new (((w.alloc (.cells (ncA c (.slice a1 6 j)) 25)).alloc (.cells #[.slice a n k] 27)).alloc (.cells zeroN 25)) #[.slice none 0 0] 27 _ (by simp)
    have g0 : Grew w ((((w.alloc (.cells (ncA c (.slice a1 6 j)) 25)).alloc (.cells #[.slice a n k] 27)).alloc (.cells zeroN 25)).alloc (.cells #[.slice none 0 0] 27)) := ((((Grew.refl w).alloc (.cells (ncA c (.slice a1 6 j)) 25)).alloc (.cells #[.slice a n k] 27)).alloc (.cells zeroN 25)).alloc (.cells #[.slice none 0 0] 27)
    generalize ((((w.alloc (.cells (ncA c (.slice a1 6 j)) 25)).alloc (.cells #[.slice a n k] 27)).alloc (.cells zeroN 25)).alloc (.cells #[.slice none 0 0] 27)) = w0 at *
    have lN : w.heap.size ≤ w.heap.size := by omega
    have lM : w.heap.size ≤ (w.heap.size + 1) := by omega
    have lR : w.heap.size ≤ (w.heap.size + 2) := by omega
    have lQ : w.heap.size ≤ (w.heap.size + 3) := by omega
    have nNM : w.heap.size ≠ (w.heap.size + 1) := by omega
    have nNR : w.heap.size ≠ (w.heap.size + 2) := by omega
    have nNQ : w.heap.size ≠ (w.heap.size + 3) := by omega
    have nMN : (w.heap.size + 1) ≠ w.heap.size := by omega
    have nMR : (w.heap.size + 1) ≠ (w.heap.size + 2) := by omega
    have nMQ : (w.heap.size + 1) ≠ (w.heap.size + 3) := by omega
    have nRN : (w.heap.size + 2) ≠ w.heap.size := by omega
    have nRM : (w.heap.size + 2) ≠ (w.heap.size + 1) := by omega
    have nRQ : (w.heap.size + 2) ≠ (w.heap.size + 3) := by omega
    have nQN : (w.heap.size + 3) ≠ w.heap.size := by omega
    have nQM : (w.heap.size + 3) ≠ (w.heap.size + 1) := by omega
    have nQR : (w.heap.size + 3) ≠ (w.heap.size + 2) := by omega
    generalize (w.heap.size + 3) = Q at *
    generalize (w.heap.size + 2) = R at *
    generalize (w.heap.size + 1) = M at *
    generalize hZ : w.heap.size = N at *
    have HZ := Lib.hid hZ
    clear hZ
    have LN : Hid (w.heap.size ≤ N) := Lib.hid (by rw [HZ.out]; exact lN)
    have LM : Hid (w.heap.size ≤ M) := Lib.hid (by rw [HZ.out]; exact lM)
    have LR : Hid (w.heap.size ≤ R) := Lib.hid (by rw [HZ.out]; exact lR)
    have LQ : Hid (w.heap.size ≤ Q) := Lib.hid (by rw [HZ.out]; exact lQ)
    go_wp2_with (refine ld_nc rfl (.tmp 3) rfl _ rfl kN (by rfl) ?_)
    refine (HC.out _).mono ?_
    rintro e w1 ⟨rfl, g1⟩
    have kN1 := kN.grew g1
    have kM1 := kM.grew g1
    have kR1 := kR.grew g1
    have kQ1 := kQ.grew g1
    replace g1 := g0.trans g1
    clear kN kM kR kQ g0
    have y0 : w1.cell? ⟨N, 0, none⟩ = some (.int .i64 (c 0)) := kN1.cell 0
    go_wp2_with (refine lw_nc (by rfl) (.tmp 3) rfl _ rfl kN1 (by rfl) ?_)
    refine (HWa.out _ (HN.out.grew g1) (HF.out.grew g1)).mono ?_
    rintro e w2 ⟨rfl, g2⟩
    replace kN1 := kN1.grew g2
    replace kM1 := kM1.grew g2
    replace kR1 := kR1.grew g2
    replace kQ1 := kQ1.grew g2
    replace g1 := g1.trans g2
    clear g2 y0
    have y7 : w2.cell? ⟨N, 7, none⟩ = some (.int .u64 (c 7)) := kN1.cell 7
    have y9 : w2.cell? ⟨N, 9, none⟩ = some (.int .i64 (c 9)) := kN1.cell 9
    have y10 : w2.cell? ⟨N, 10, none⟩ = some (.int .i64 (c 10)) := kN1.cell 10
    go_upto_region 6 with fail
    clear q2 e2 qw u0 u9 y9 y10 y7 HWa q1 q3 q4
    go_wp2_with (refine ld_rm rfl (.tmp 4) rfl _ rfl kM1 (by rfl) ?_)
    refine (hBy.out _ (HM.out.grew g1)).mono ?_
    rintro e w3 ⟨u, rfl, HB, g2⟩
    obtain ⟨ub, uk, rfl, hx1, hx2⟩ := HB.shape
    clear hx1 hx2
    replace kN1 := kN1.grew g2
    replace kM1 := kM1.grew g2
    replace kR1 := kR1.grew g2
    replace kQ1 := kQ1.grew g2
    replace g1 := g1.trans g2
    clear g2 hBy
    obtain ⟨b1, o1, eb1, c10, l10⟩ := HB.at 10 (by rw [H16.out]; decide) _ Hf0.out
    subst eb1
    obtain ⟨d0, v0⟩ := HD0.out
    have h10 : (10 : Int) < (ds.length : Int) := by rw [H16.out]; decide
    go_upto_region 12 with fail
    clear c10 l10 d0 v0 h10
    have y8 : w3.cell? ⟨N, 8, none⟩ = some (.int .i64 (c 8)) := kN1.cell 8
    have y9 : w3.cell? ⟨N, 9, none⟩ = some (.int .i64 (c 9)) := kN1.cell 9
    have f9 := kN1.free 9
    obtain ⟨q5, q6, q7, q8⟩ := HQ4.out
    go_upto_region 13 with fail
    have kN2 := kN1.nc (by decide : 9 < 13) (by decide) (by decide) ((c 9 + 1) % c 8)
    have o5 := Only.set w3 N 9 (.int .i64 ((c 9 + 1) % c 8))
    have kM2 := kM1.only o5 nMN
    have kR2 := kR1.only o5 nRN
    have kQ2 := kQ1.only o5 nQN
    have HB2 := HB.only o5 kN1 (nb_nc _ _ _ _)
    have g2 : Grew w _ := o5.grew g1 LN.out
    clear y8 y9 f9 q5 q6 q7 q8 kN1 kM1 kR1 kQ1 g1 o5 HB HQ4
    generalize (w3.setCell ⟨N, 9, none⟩ (.int .i64 ((c 9 + 1) % c 8))) = w4 at *
    replace kN2 : Blk w4 N (ncA (headr c) (.slice a1 6 j)) 25 := kN2
    obtain ⟨p8, q8, HL8, hx8, hr8, hy8, hz8⟩ := HB2.run_cut (lo := 8) (hi := 10) (by decide) (by rw [H16.out]; decide)
    obtain ⟨p0, q0, HL0, hx0, hy0, hr0, hz0⟩ := HB2.run_cut (lo := 0) (hi := 8) (by decide) (by rw [H16.out]; decide)
    replace hr0 := hr0 rfl
    have HR8 : ∀ w', (Instr.sliceAt 23 (.slice (some ⟨b1, o1, none⟩) ds.length uk) (some (.int .i64 8)) (some (.int .i64 10)) none).run Try.prog w' = .ok (.slice p8 2 q8) w' := fun w' => hr8 .i64 .i64 w'
    have HR0 : ∀ w', (Instr.sliceAt 23 (.slice (some ⟨b1, o1, none⟩) ds.length uk) none (some (.int .i64 8)) none).run Try.prog w' = .ok (.slice p0 8 q0) w' := fun w' => hr0 .i64 w'
    have HL0 : Hid (Buf w4 (.slice p0 8 q0) (cutL ds 0 8)) := Lib.hid HL0
    have HL8 : Hid (Buf w4 (.slice p8 2 q8) (cutL ds 8 10)) := Lib.hid HL8
    have HB3 := Lib.hid HB2
    clear hr8 hr0 HB2 hx8 hy8 hz8 hx0 hy0 hz0
    have hws := HWS.out
    refine region_over (by kernel_rfl) (by kernel_rfl) ?_
    repeat (first | go_big_quiet_step ((go_at_call 40; first | with_reducible exact over_bk (hG8.out _ _ (HL8.out.grew (Over.g _))) | with_reducible exact over_bk (hG0.out _ _ (HL0.out.grew (Over.g _))))))
    refine wpQuiet_nil ?_
    intro z
    have kN3 := kN2.over z
    have kM3 := kM2.over z
    have kR3 := kR2.over z
    have kQ3 := kQ2.over z
    have HB4 := Lib.hid (HB3.out.grew z.g)
    have g3 := g2.trans z.g
    clear kN2 kM2 kR2 kQ2 HB3 g2 HL0 HL8 HR0 HR8 hws hG8 hG0 HWS
    generalize z.w = w5 at *
    clear z
    go_upto_region 15 with fail
    refine region_over_tail 6 (by kernel_rfl) (by kernel_rfl) ?_
    simp only [List.take_succ_cons, List.take_zero, List.drop_succ_cons, List.drop_zero]
    repeat (first | (refine q_nc (by kernel_rfl) (.tmp 3) rfl _ rfl (fun _ ⟨z, e⟩ => e ▸ kN3.over z) (by rfl) ?_; simp only [Act.put, List.setIfInBounds_toArray, List.set_cons_zero, List.set_cons_succ]) | (refine q_rm (by kernel_rfl) (.tmp 4) rfl _ rfl (fun _ ⟨z, e⟩ => e ▸ kM3.over z) (by rfl) ?_; simp only [Act.put, List.setIfInBounds_toArray, List.set_cons_zero, List.set_cons_succ]) | go_big_quiet_step ((first | (go_at_call 45; with_reducible exact over_grew (hWr.out _)) | (go_at_call 49; with_reducible exact over_grew (hDr.out _)))))
    refine wpQuiet_nil ?_
    intro z
    have kRc := kR3.over z
    have kQc := kQ3.over z
    have HBc := Lib.hid (HB4.out.grew z.g)
    have gc := g3.trans z.g
    clear kN3 kM3 kR3 kQ3 HB4 g3
    generalize z.w = w6 at *
    clear z hWr hDr
    go_wp2_with fail
    refine (hDo.out _ _ _ (HM.out.grew gc) HBc.out).mono ?_
    rintro e w7 ⟨ya, yn, yk, rfl, HY, gb⟩
    replace kRc := kRc.grew gb
    replace kQc := kQc.grew gb
    replace gc := gc.trans gb
    clear gb HBc hDo
    go_wp2_with (first | (refine st_nc rfl (.tmp 6) (.tmp 111) rfl rfl (headr (dropC (failC c))) kRc rfl (by rfl) (by rfl) ⟨_, _, _, rfl⟩ ?_; intro wd kRd od; have kQd := kQc.only od nQR) | (refine st_rm rfl (.tmp 7) (.tmp 115) rfl rfl kQd rfl (by rfl) (by rfl) ⟨_, _, _, rfl⟩ ?_; intro we kQe oe))
    have kRe := kRd.only oe nRQ
    have HYe := Lib.hid ((HY.out.only od kRc nb_zn).only oe kQd (nb_one _ (fun x h => by cases h)))
    have ge : Grew w we := oe.grew (od.grew gc LR.out) LQ.out
    exact bodyPost_ret (v := .tuple #[ncV (headr (dropC (failC c))) (.slice a1 6 j), .agg #[.slice ya yn yk], .bool false]) (results_3 (p := 6) (q := 7) (r := 8) Try.results28 _ _ R Q kRe kQe rfl rfl) rfl ⟨_, _, _, _, _, rfl, Lib.hid (HN.out.grew ge), HYe, ge⟩
  case false =>
    rw [d3] at hf
    have hf1 : iv = false := by simpa using hf
    clear hf
    subst hf1
    go_enter Try.func28, Try.ntmps28
    go_upto_region 1 with fail
    have kN : Blk ((((w.alloc (.cells (ncA c (.slice a1 6 j)) 25)).alloc (.cells #[.slice a n k] 27)).alloc (.cells zeroN 25)).alloc (.cells #[.slice none 0 0] 27)) w.heap.size (ncA c (.slice a1 6 j)) 25 := (((Blk.new w (ncA c (.slice a1 6 j)) 25 _ rfl).alloc (.cells #[.slice a n k] 27)).alloc (.cells zeroN 25)).alloc (.cells #[.slice none 0 0] 27)
    have kM : Blk ((((w.alloc (.cells (ncA c (.slice a1 6 j)) 25)).alloc (.cells #[.slice a n k] 27)).alloc (.cells zeroN 25)).alloc (.cells #[.slice none 0 0] 27)) (w.heap.size + 1) #[.slice a n k] 27 := ((Blk.new (w.alloc (.cells (ncA c (.slice a1 6 j)) 25)) #[.slice a n k] 27 _ (by simp)).alloc (.cells zeroN 25)).alloc (.cells #[.slice none 0 0] 27)
    have kR : Blk ((((w.alloc (.cells (ncA c (.slice a1 6 j)) 25)).alloc (.cells #[.slice a n k] 27)).alloc (.cells zeroN 25)).alloc (.cells #[.slice none 0 0] 27)) (w.heap.size + 2) zeroN 25 := (Blk.new ((w.alloc (.cells (ncA c (.slice a1 6 j)) 25)).alloc (.cells #[.slice a n k] 27)) zeroN 25 _ (by simp)).alloc (.cells #[.slice none 0 0] 27)
    have kQ : Blk ((((w.alloc (.cells (ncA c (.slice a1 6 j)) 25)).alloc (.cells #[.slice a n k] 27)).alloc (.cells zeroN 25)).alloc (.cells #[.slice none 0 0] 27)) (w.heap.size + 3) #[.slice none 0 0] 27 := Blk.new (((w.alloc (.cells (ncA c (.slice a1 6 j)) 25)).alloc (.cells #[.slice a n k] 27)).alloc (.cells zeroN 25)) #[.slice none 0 0] 27 _ (by simp)
    have g0 : Grew w ((((w.alloc (.cells (ncA c (.slice a1 6 j)) 25)).alloc (.cells #[.slice a n k] 27)).alloc (.cells zeroN 25)).alloc (.cells #[.slice none 0 0] 27)) := ((((Grew.refl w).alloc (.cells (ncA c (.slice a1 6 j)) 25)).alloc (.cells #[.slice a n k] 27)).alloc (.cells zeroN 25)).alloc (.cells #[.slice none 0 0] 27)
    generalize ((((w.alloc (.cells (ncA c (.slice a1 6 j)) 25)).alloc (.cells #[.slice a n k] 27)).alloc (.cells zeroN 25)).alloc (.cells #[.slice none 0 0] 27)) = w0 at *
    have lN : w.heap.size ≤ w.heap.size := by omega
    have lM : w.heap.size ≤ (w.heap.size + 1) := by omega
    have lR : w.heap.size ≤ (w.heap.size + 2) := by omega
    have lQ : w.heap.size ≤ (w.heap.size + 3) := by omega
    have nNM : w.heap.size ≠ (w.heap.size + 1) := by omega
    have nNR : w.heap.size ≠ (w.heap.size + 2) := by omega
    have nNQ : w.heap.size ≠ (w.heap.size + 3) := by omega
    have nMN : (w.heap.size + 1) ≠ w.heap.size := by omega
    have nMR : (w.heap.size + 1) ≠ (w.heap.size + 2) := by omega
    have nMQ : (w.heap.size + 1) ≠ (w.heap.size + 3) := by omega
    have nRN : (w.heap.size + 2) ≠ w.heap.size := by omega
    have nRM : (w.heap.size + 2) ≠ (w.heap.size + 1) := by omega
    have nRQ : (w.heap.size + 2) ≠ (w.heap.size + 3) := by omega
    have nQN : (w.heap.size + 3) ≠ w.heap.size := by omega
    have nQM : (w.heap.size + 3) ≠ (w.heap.size + 1) := by omega
    have nQR : (w.heap.size + 3) ≠ (w.heap.size + 2) := by omega
    generalize (w.heap.size + 3) = Q at *
    generalize (w.heap.size + 2) = R at *
    generalize (w.heap.size + 1) = M at *
    generalize hZ : w.heap.size = N at *
    have HZ := Lib.hid hZ
    clear hZ
    have LN : Hid (w.heap.size ≤ N) := Lib.hid (by rw [HZ.out]; exact lN)
    have LM : Hid (w.heap.size ≤ M) := Lib.hid (by rw [HZ.out]; exact lM)
    have LR : Hid (w.heap.size ≤ R) := Lib.hid (by rw [HZ.out]; exact lR)
    have LQ : Hid (w.heap.size ≤ Q) := Lib.hid (by rw [HZ.out]; exact lQ)
    go_wp2_with (refine ld_nc rfl (.tmp 3) rfl _ rfl kN (by rfl) ?_)
    refine (HC.out _).mono ?_
    rintro e w1 ⟨rfl, g1⟩
    have kN1 := kN.grew g1
    have kM1 := kM.grew g1
    have kR1 := kR.grew g1
    have kQ1 := kQ.grew g1
    replace g1 := g0.trans g1
    clear kN kM kR kQ g0
    have y0 : w1.cell? ⟨N, 0, none⟩ = some (.int .i64 (c 0)) := kN1.cell 0
    go_wp2_with (refine lw_nc (by rfl) (.tmp 3) rfl _ rfl kN1 (by rfl) ?_)
    refine (HWa.out _ (HN.out.grew g1) (HF.out.grew g1)).mono ?_
    rintro e w2 ⟨rfl, g2⟩
    replace kN1 := kN1.grew g2
    replace kM1 := kM1.grew g2
    replace kR1 := kR1.grew g2
    replace kQ1 := kQ1.grew g2
    replace g1 := g1.trans g2
    clear g2 y0
    have y7 : w2.cell? ⟨N, 7, none⟩ = some (.int .u64 (c 7)) := kN1.cell 7
    have y9 : w2.cell? ⟨N, 9, none⟩ = some (.int .i64 (c 9)) := kN1.cell 9
    have y10 : w2.cell? ⟨N, 10, none⟩ = some (.int .i64 (c 10)) := kN1.cell 10
    go_upto_region 6 with fail
    clear q2 e2 qw u0 u9 y9 y10 y7 HWa q1 q3 q4
    go_wp2_with (refine ld_rm rfl (.tmp 4) rfl _ rfl kM1 (by rfl) ?_)
    refine (hBy.out _ (HM.out.grew g1)).mono ?_
    rintro e w3 ⟨u, rfl, HB, g2⟩
    obtain ⟨ub, uk, rfl, hx1, hx2⟩ := HB.shape
    clear hx1 hx2
    replace kN1 := kN1.grew g2
    replace kM1 := kM1.grew g2
    replace kR1 := kR1.grew g2
    replace kQ1 := kQ1.grew g2
    replace g1 := g1.trans g2
    clear g2 hBy
    obtain ⟨b1, o1, eb1, c10, l10⟩ := HB.at 10 (by rw [H16.out]; decide) _ Hf0.out
    subst eb1
    obtain ⟨d0, v0⟩ := HD0.out
    have h10 : (10 : Int) < (ds.length : Int) := by rw [H16.out]; decide
    go_upto_region 12 with fail
    clear c10 l10 d0 v0 h10
    have y8 : w3.cell? ⟨N, 8, none⟩ = some (.int .i64 (c 8)) := kN1.cell 8
    have y9 : w3.cell? ⟨N, 9, none⟩ = some (.int .i64 (c 9)) := kN1.cell 9
    have f9 := kN1.free 9
    obtain ⟨q5, q6, q7, q8⟩ := HQ4.out
    go_upto_region 13 with fail
    have kN2 := kN1.nc (by decide : 9 < 13) (by decide) (by decide) ((c 9 + 1) % c 8)
    have o5 := Only.set w3 N 9 (.int .i64 ((c 9 + 1) % c 8))
    have kM2 := kM1.only o5 nMN
    have kR2 := kR1.only o5 nRN
    have kQ2 := kQ1.only o5 nQN
    have HB2 := HB.only o5 kN1 (nb_nc _ _ _ _)
    have g2 : Grew w _ := o5.grew g1 LN.out
    clear y8 y9 f9 q5 q6 q7 q8 kN1 kM1 kR1 kQ1 g1 o5 HB HQ4
    generalize (w3.setCell ⟨N, 9, none⟩ (.int .i64 ((c 9 + 1) % c 8))) = w4 at *
    replace kN2 : Blk w4 N (ncA (headr c) (.slice a1 6 j)) 25 := kN2
    obtain ⟨p8, q8, HL8, hx8, hr8, hy8, hz8⟩ := HB2.run_cut (lo := 8) (hi := 10) (by decide) (by rw [H16.out]; decide)
    obtain ⟨p0, q0, HL0, hx0, hy0, hr0, hz0⟩ := HB2.run_cut (lo := 0) (hi := 8) (by decide) (by rw [H16.out]; decide)
    replace hr0 := hr0 rfl
    have HR8 : ∀ w', (Instr.sliceAt 23 (.slice (some ⟨b1, o1, none⟩) ds.length uk) (some (.int .i64 8)) (some (.int .i64 10)) none).run Try.prog w' = .ok (.slice p8 2 q8) w' := fun w' => hr8 .i64 .i64 w'
    have HR0 : ∀ w', (Instr.sliceAt 23 (.slice (some ⟨b1, o1, none⟩) ds.length uk) none (some (.int .i64 8)) none).run Try.prog w' = .ok (.slice p0 8 q0) w' := fun w' => hr0 .i64 w'
    have HL0 : Hid (Buf w4 (.slice p0 8 q0) (cutL ds 0 8)) := Lib.hid HL0
    have HL8 : Hid (Buf w4 (.slice p8 2 q8) (cutL ds 8 10)) := Lib.hid HL8
    have HB3 := Lib.hid HB2
    clear hr8 hr0 HB2 hx8 hy8 hz8 hx0 hy0 hz0
    have hws := HWS.out
    refine region_over (by kernel_rfl) (by kernel_rfl) ?_
    repeat (first | go_big_quiet_step ((go_at_call 40; first | with_reducible exact over_bk (hG8.out _ _ (HL8.out.grew (Over.g _))) | with_reducible exact over_bk (hG0.out _ _ (HL0.out.grew (Over.g _))))))
    refine wpQuiet_nil ?_
    intro z
    have kN3 := kN2.over z
    have kM3 := kM2.over z
    have kR3 := kR2.over z
    have kQ3 := kQ2.over z
    have HB4 := Lib.hid (HB3.out.grew z.g)
    have g3 := g2.trans z.g
    clear kN2 kM2 kR2 kQ2 HB3 g2 HL0 HL8 HR0 HR8 hws hG8 hG0 HWS
    generalize z.w = w5 at *
    clear z
    go_wp2_with (refine lw_rmw (by rfl) (.tmp 4) rfl _ rfl kM3 (by rfl) ?_)
    refine (hIn.out _).mono ?_
    rintro e wi ⟨rfl, gi⟩
    replace kN3 := kN3.grew gi
    replace kM3 := kM3.grew gi
    replace kR3 := kR3.grew gi
    replace kQ3 := kQ3.grew gi
    replace HB4 := Lib.hid (HB4.out.grew gi)
    replace g3 := g3.trans gi
    clear gi
    go_upto_region 15 with fail
    refine region_over_tail 6 (by kernel_rfl) (by kernel_rfl) ?_
    simp only [List.take_succ_cons, List.take_zero, List.drop_succ_cons, List.drop_zero]
    repeat (first | (refine q_nc (by kernel_rfl) (.tmp 3) rfl _ rfl (fun _ ⟨z, e⟩ => e ▸ kN3.over z) (by rfl) ?_; simp only [Act.put, List.setIfInBounds_toArray, List.set_cons_zero, List.set_cons_succ]) | (refine q_rm (by kernel_rfl) (.tmp 4) rfl _ rfl (fun _ ⟨z, e⟩ => e ▸ kM3.over z) (by rfl) ?_; simp only [Act.put, List.setIfInBounds_toArray, List.set_cons_zero, List.set_cons_succ]) | go_big_quiet_step ((first | (go_at_call 45; with_reducible exact over_grew (hWr.out _)) | (go_at_call 49; with_reducible exact over_grew (hDr.out _)))))
    refine wpQuiet_nil ?_
    intro z
    have kRc := kR3.over z
    have kQc := kQ3.over z
    have HBc := Lib.hid (HB4.out.grew z.g)
    have gc := g3.trans z.g
    clear kN3 kM3 kR3 kQ3 HB4 g3
    generalize z.w = w6 at *
    clear z hWr hDr
    go_wp2_with fail
    refine (hDo.out _ _ _ (HM.out.grew gc) HBc.out).mono ?_
    rintro e w7 ⟨ya, yn, yk, rfl, HY, gb⟩
    replace kRc := kRc.grew gb
    replace kQc := kQc.grew gb
    replace gc := gc.trans gb
    clear gb HBc hDo
    go_wp2_with (first | (refine st_nc rfl (.tmp 6) (.tmp 111) rfl rfl (headr (dropC (failC c))) kRc rfl (by rfl) (by rfl) ⟨_, _, _, rfl⟩ ?_; intro wd kRd od; have kQd := kQc.only od nQR) | (refine st_rm rfl (.tmp 7) (.tmp 115) rfl rfl kQd rfl (by rfl) (by rfl) ⟨_, _, _, rfl⟩ ?_; intro we kQe oe))
    have kRe := kRd.only oe nRQ
    have HYe := Lib.hid ((HY.out.only od kRc nb_zn).only oe kQd (nb_one _ (fun x h => by cases h)))
    have ge : Grew w we := oe.grew (od.grew gc LR.out) LQ.out
    exact bodyPost_ret (v := .tuple #[ncV (headr (dropC (failC c))) (.slice a1 6 j), .agg #[.slice ya yn yk], .bool false]) (results_3 (p := 6) (q := 7) (r := 8) Try.results28 _ _ R Q kRe kQe rfl rfl) rfl ⟨_, _, _, _, _, rfl, Lib.hid (HN.out.grew ge), HYe, ge⟩
end Go.Proofs.Ytoehdhhodidehaa
