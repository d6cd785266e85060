/-
  The document's own controller: which frames are wanted, what is told of a descriptor that is done.
-/
import Derived.Test.YtoehdhhodidehaaRows
import Derived.Test.YtoehdhhodidehaaNcRa
import Derived.Test.YtoehdhhodidehaaNcH
import Derived.Test.YtoehdhhodidehaaNcZ
import Derived.WalkKit
import Derived.Outline
import Derived.Handy
import Derived.StillTailTactics
import Derived.Deep.QuietTactic
import Derived.BigQuiet
import Derived.Deep.DeepCutAuto
import Derived.Deep.RegionHeld3
import Derived.Great.BuildSlice
import Derived.Deep.WholeRow
import Derived.Lib.SliceRun
import Derived.BigFrame
set_option maxRecDepth 4000
set_option linter.unusedVariables false
set_option linter.unusedSimpArgs false
namespace Go.Proofs.Ytoehdhhodidehaa
open Go.RowKit

def mineK (fs m : List Int) : Nat → Bool
  | 0 => true
  | k + 1 => mineK fs m k && (fs.getD k 0 == m.getD k 0)
def everK (fs : List Int) : Nat → Bool
  | 0 => true
  | k + 1 => everK fs k && (fs.getD k 0 == 255)
theorem mineK_s (fs m : List Int) (k : Nat) : mineK fs m (k + 1) = (mineK fs m k && (fs.getD k 0 == m.getD k 0)) := rfl
theorem everK_s (fs : List Int) (k : Nat) : everK fs (k + 1) = (everK fs k && (fs.getD k 0 == 255)) := rfl
theorem six_meas {k : Nat} (h : k < 6) (hw : wrap64 ((k : Int) + 1) = (k : Int) + 1) : 6 - (intOf (.int .i64 (wrap64 ((k : Int) + 1)))).toNat < 6 - (intOf (.int .i64 (k : Int))).toNat := by
  rw [hw]
  show 6 - ((k : Int) + 1).toNat < 6 - ((k : Int)).toNat
  omega
theorem six_meas2 {k : Nat} (h : k < 6) : 6 - (intOf (.int .i64 ((k : Int) + 1))).toNat < 6 - (intOf (.int .i64 (k : Int))).toNat := by
  show 6 - ((k : Int) + 1).toNat < 6 - ((k : Int)).toNat
  omega
def wantedB (c : Nat → Int) (m fs : List Int) : Bool := ((c 0).tdiv 4 == 1) || (mineK fs m 6 || everK fs 6)
set_option maxHeartbeats 4000000 in
theorem wanted_c {c : Nat → Int} {m fs : List Int} {a : Option Addr} {k : Nat} {fa : Option Addr} {fn fk : Nat} {w : World} (h0 : 0 ≤ c 0) (h1 : c 0 < 8) (hM : Buf w (.slice a 6 k) m) (hF : Buf w (.slice fa fn fk) fs) (hl : 6 ≤ fs.length) : Calls Try.prog 48 #[ncV c (.slice a 6 k), .slice fa fn fk] w fun e w' => e = .returned (.bool (wantedB c m fs)) ∧ Grew w w' := by
  have hmn := hM.lenEq.1
  have hfn := hF.lenEq.1
  have hF6 : 6 ≤ fn := by omega
  have hm6 : 6 ≤ m.length := by omega
  have HM := Lib.hid hM
  have HF := Lib.hid hF
  have hqw : IntKind.i64.wrap ((c 0).tdiv 4) = (c 0).tdiv 4 := by
    have : (c 0).tdiv 4 = c 0 / 4 := Int.tdiv_eq_ediv_of_nonneg h0
    exact IntWalk.i64_in _ (by omega)
  unfold wantedB
  clear h0 h1 hM hF hmn hfn
  generalize hWR : (mineK fs m 6 || everK fs 6) = wr6 at *
  have HWR := Lib.hid hWR
  clear hWR
  go_enter Try.func48, Try.ntmps48
  go_upto_region 1 with fail
  have kN : Blk (w.alloc (.cells (ncA c (.slice a 6 k)) 25)) w.heap.size (ncA c (.slice a 6 k)) 25 := Blk.new w (ncA c (.slice a 6 k)) 25 _ rfl
  have g0 : Grew w (w.alloc (.cells (ncA c (.slice a 6 k)) 25)) := (Grew.refl w).alloc (.cells (ncA c (.slice a 6 k)) 25)
  generalize (w.alloc (.cells (ncA c (.slice a 6 k)) 25)) = w0 at *
  have lN : w.heap.size ≤ w.heap.size := by omega
  generalize hZ : w.heap.size = N at *
  have HZ := Lib.hid hZ
  clear hZ
  have LN : Hid (w.heap.size ≤ N) := Lib.hid (by rw [HZ.out]; exact lN)
  have y0 : w0.cell? ⟨N, 0, none⟩ = some (.int .i64 (c 0)) := kN.cell 0
  go_upto_region 4 with fail
  generalize hq : ((c 0).tdiv 4 == 1) = q at *
  have HQ := Lib.hid hq
  clear y0 hqw hq
  go_loopw [8, 6, 7] (fun i x y wr => ∃ r : Nat, r ≤ 6 ∧ i = .int .i64 r ∧ x = .bool (mineK fs m r) ∧ y = .bool (everK fs r) ∧ Grew w0 wr) (fun i _ _ _ => 6 - (intOf i).toNat)
  case atStart => exact ⟨0, by omega, rfl, rfl, rfl, Grew.refl _⟩
  case round =>
    obtain ⟨r, hr, rfl, rfl, rfl, GR⟩ := hrel
    by_cases hlt : r < 6
    · have hlt' : (r : Int) < 6 := by omega
      have kN1 := kN.grew GR
      obtain ⟨b1, o1, eb1, cx, lx⟩ := (HM.out.grew (g0.trans GR)).at r (by omega) _ rfl
      obtain ⟨b2, o2, eb2, cz, lz⟩ := (HF.out.grew (g0.trans GR)).at r (by omega) _ rfl
      have e1 := mineK_s fs m r
      have e2 := everK_s fs r
      have E1 := Lib.hid e1
      have E2 := Lib.hid e2
      clear e1 e2
      subst eb1
      subst eb2
      generalize mineK fs m r = p1 at *
      generalize everK fs r = p2 at *
      generalize m.getD r 0 = x at *
      generalize fs.getD r 0 = y at *
      have hr0 : (0 : Int) ≤ (r : Int) := by omega
      have hrf : (r : Int) < (fn : Int) := by omega
      go_upto_region 6 with fail
      cases p1
      all_goals
        have z1 := fun z : Over wr => kN1.overCell 13 (.slice (some ⟨b1, o1, none⟩) 6 k) rfl z
        have z2 := fun z : Over wr => Over.cell lx cx z
        have z3 := fun z : Over wr => Over.cell lz cz z
        refine region_over (by kernel_rfl) (by kernel_rfl) ?_
        repeat (first | go_big_quiet_step (fail) | quiet_step (fail))
        refine wpQuiet_nil ?_
        intro z
        have gz := z.g
        replace cz := Over.cell lz cz z
        replace lz := Nat.lt_of_lt_of_le lz gz.size
        replace GR := GR.trans gz
        clear z1 z2 z3 cx lx kN1 gz
        generalize z.w = wq at *
        go_upto_region 7 with fail
        have y3 : wq.cell? ⟨b2, o2 + r, none⟩ = some (.int .u8 y) := cz
        cases p2
        all_goals
          go_wp2_with fail
          have hwk2 : wrap64 ((r : Int) + 1) = (r : Int) + 1 := IntWalk.wrap64_in _ (by omega)
          go_roundw
          case rel => exact ⟨r + 1, by omega, congrArg (Value.int .i64) (by first | rfl | (rw [hwk2]; omega) | omega), by rw [E1.out]; rfl, by rw [E2.out]; rfl, GR⟩
          case measure => first | exact six_meas hlt hwk2 | exact six_meas2 hlt
    · obtain rfl : r = 6 := by omega
      have hnl : ¬ (((6 : Nat) : Int) < 6) := by omega
      generalize hp1 : mineK fs m 6 = p1 at *
      generalize hp2 : everK fs 6 = p2 at *
      have e6 := HWR.out
      cases p1 <;> cases p2 <;> cases q
      all_goals
        simp only [Bool.or_false, Bool.or_true, Bool.false_or, Bool.true_or] at e6
        subst e6
        go_wp2_with fail
        go_ret
        exact ⟨by first | rfl | (rw [HQ.out]; first | done | rfl), g0.trans GR⟩
theorem andNot8 {x : Int} (h0 : 0 ≤ x) (h1 : x < 256) : bits .andNot .u8 x 1 = x - x % 2 := by
  obtain ⟨n, rfl⟩ := Int.eq_ofNat_of_zero_le h0
  have : ∀ n : Fin 256, bits .andNot .u8 (n.val : Int) 1 = (n.val : Int) - (n.val : Int) % 2 := by decide
  exact this ⟨n, by omega⟩
theorem results_m1 {fn : Func} {p : Tmp} (h : fn.results = #[.cell p 27]) (tmps : Array Value) (w : World) (g2 : Nat) {T2 : TypeId} {a : Option Addr} {n k : Nat} (kM : Blk w g2 #[.slice a n k] T2)
    (hp : tmps.getD p undef = .pointer (some ⟨g2, 0, none⟩)) : (results fn tmps).run Try.prog w = .ok (.agg #[.slice a n k]) w := by
  have hp' : tmps[p]?.getD undef = .pointer (some ⟨g2, 0, none⟩) := by simpa using hp
  simp [results, h, hp', asAddr, load_ram (kM.cell 0) ⟨_, _, _, rfl⟩]
set_option maxHeartbeats 4000000 in
theorem rdone_c {w : World} {a : Option Addr} {n k : Nat} {xs ds : List Int} {x st : Int} {b : Option Addr} {j i : Nat} (hx0 : 0 ≤ x) (hx1 : x + 10 < 18446744073709551616) (hs0 : 0 ≤ st) (hs1 : st < 256) (hM : Buf w (.slice a n k) xs) (hD : Buf w (.slice b j i) ds) (h16 : ds.length = 16) (hl : xs.length ≤ 140737488355328) :
    Calls Try.prog 46 #[.agg #[.slice a n k], .int .u64 x, .slice b j i, .int .u8 st] w fun e w' => ∃ a' n' k', e = .returned (.agg #[.slice a' n' k']) ∧ Hid (Buf w' (.slice a' n' k') (fillV xs (x + 10) [ds.getD 10 0 - ds.getD 10 0 % 2, ds.getD 11 0, st, 0])) ∧ Grew w w' := by
  have hj := hD.lenEq.1
  have hj10 : (10 : Int) < (j : Int) := by omega
  have hj11 : (11 : Int) < (j : Int) := by omega
  have d0 := hD.ok.getD 10
  have d1 := hD.ok.getD 11
  have han := andNot8 d0.1 d0.2
  have hxw : IntKind.u64.wrap (x + 10) = x + 10 := IntWalk.u64_in _ (by omega)
  have hok : AreBytes [ds.getD 10 0 - ds.getD 10 0 % 2, ds.getD 11 0, st, 0] := fun y hy => by
    simp only [List.mem_cons, List.not_mem_nil, or_false] at hy
    rcases hy with rfl | rfl | rfl | rfl <;> omega
  have HFi := Lib.hid (fun (w : World) (u : Value) (hb : Buf w (.slice a n k) xs) (hu : Buf w u [ds.getD 10 0 - ds.getD 10 0 % 2, ds.getD 11 0, st, 0]) => refFill_c (x + 10) (by omega) hx1 w hb hu hl)
  generalize ds.getD 10 0 - ds.getD 10 0 % 2 = e0 at *
  generalize hf0 : ds.getD 10 0 = f0 at *
  generalize he1 : ds.getD 11 0 = e1 at *
  have HD := Lib.hid hD
  have Hf0 := Lib.hid hf0
  have He1 := Lib.hid he1
  generalize hfv : fillV xs (x + 10) [e0, e1, st, 0] = ys at *
  have HM := Lib.hid hM
  have HK := Lib.hid hok
  clear hM hD hl h16 d0 d1 hok hx0 hx1 hs0 hs1 hfv hf0 he1
  go_enter Try.func46, Try.ntmps46
  go_upto_region 1 with fail
  have kM : Blk ((w.alloc (.cells #[.slice a n k] 27)).alloc (.cells #[.slice none 0 0] 27)) w.heap.size #[.slice a n k] 27 := (Blk.new w #[.slice a n k] 27 _ rfl).alloc (.cells #[.slice none 0 0] 27)
  have kQ : Blk ((w.alloc (.cells #[.slice a n k] 27)).alloc (.cells #[.slice none 0 0] 27)) (w.heap.size + 1) #[.slice none 0 0] 27 := Blk.new (w.alloc (.cells #[.slice a n k] 27)) #[.slice none 0 0] 27 _ (by simp)
  have g0 : Grew w ((w.alloc (.cells #[.slice a n k] 27)).alloc (.cells #[.slice none 0 0] 27)) := ((Grew.refl w).alloc (.cells #[.slice a n k] 27)).alloc (.cells #[.slice none 0 0] 27)
  generalize ((w.alloc (.cells #[.slice a n k] 27)).alloc (.cells #[.slice none 0 0] 27)) = w0 at *
  have lM : w.heap.size ≤ w.heap.size := by omega
  have lQ : w.heap.size ≤ (w.heap.size + 1) := by omega
  have nMQ : w.heap.size ≠ (w.heap.size + 1) := by omega
  have nQM : (w.heap.size + 1) ≠ w.heap.size := by omega
  generalize (w.heap.size + 1) = Q at *
  generalize hZ : w.heap.size = M at *
  have HZ := Lib.hid hZ
  clear hZ
  have LM : Hid (w.heap.size ≤ M) := Lib.hid (by rw [HZ.out]; exact lM)
  have LQ : Hid (w.heap.size ≤ Q) := Lib.hid (by rw [HZ.out]; exact lQ)
  obtain ⟨b1, o1, eb1, c10, l10⟩ := (HD.out.grew g0).at 10 (by omega) _ Hf0.out
  obtain ⟨b2, o2, eb2, c11, l11⟩ := (HD.out.grew g0).at 11 (by omega) _ He1.out
  subst eb1
  simp only [Option.some.injEq, Addr.mk.injEq, and_true] at eb2
  obtain ⟨rfl, rfl⟩ := eb2
  clear hj
  refine wp_region_held_drew (S := fun w' => Grew w0 w') (by kernel_rfl) ((Grew.refl w0).drew1) (fun hHeld => ?_)
  replace hHeld : Grew w0 w0.drew := hHeld
  generalize w0.drew = wq0 at *
  refine wpAnyH_take (i := 0) (v := (.agg #[.slice a n k])) rfl (by kernel_rfl) (by kernel_rfl) (by kernel_rfl) (fun _ _ _ h => h) (yl_rm rfl (by rfl) (by rfl) fun _ h => kM.grew h) hHeld ?_
  try simp only [List.getElem_toArray, List.getElem_cons_succ, List.getElem_cons_zero, Act.put, List.setIfInBounds_toArray, List.set_cons_zero, List.set_cons_succ]
  refine wpAnyH_take (i := 1) (v := ?_) rfl (by kernel_rfl) (by kernel_rfl) (by kernel_rfl) (fun _ _ _ h => h) (Or.inl ⟨by rfl, ?_⟩) hHeld ?_
  rotate_left
  · intro wq hSw
    replace hSw : Grew w0 wq := hSw
    go_simp
    try with_reducible rfl
  try simp only [List.getElem_toArray, List.getElem_cons_succ, List.getElem_cons_zero, Act.put, List.setIfInBounds_toArray, List.set_cons_zero, List.set_cons_succ]
  refine wpAnyH_take (i := 2) (v := ?_) rfl (by kernel_rfl) (by kernel_rfl) (by kernel_rfl) (fun _ _ _ h => h) (Or.inl ⟨by rfl, ?_⟩) hHeld ?_
  rotate_left
  · intro wq hSw
    replace hSw : Grew w0 wq := hSw
    go_simp
    try with_reducible rfl
  try simp only [List.getElem_toArray, List.getElem_cons_succ, List.getElem_cons_zero, Act.put, List.setIfInBounds_toArray, List.set_cons_zero, List.set_cons_succ]
  refine wpAnyH_take (i := 3) (v := ?_) rfl (by kernel_rfl) (by kernel_rfl) (by kernel_rfl) (fun _ _ _ h => h) (Or.inl ⟨by rfl, ?_⟩) hHeld ?_
  rotate_left
  · intro wq hSw
    replace hSw : Grew w0 wq := hSw
    go_simp
    try with_reducible rfl
  try simp only [List.getElem_toArray, List.getElem_cons_succ, List.getElem_cons_zero, Act.put, List.setIfInBounds_toArray, List.set_cons_zero, List.set_cons_succ]
  refine wpAnyH_take (i := 4) (v := ?_) rfl (by kernel_rfl) (by kernel_rfl) (by kernel_rfl) (fun _ _ _ h => h) (Or.inl ⟨by rfl, ?_⟩) hHeld ?_
  rotate_left
  · intro wq hSw
    replace hSw : Grew w0 wq := hSw
    go_simp
    try with_reducible rfl
  try simp only [List.getElem_toArray, List.getElem_cons_succ, List.getElem_cons_zero, Act.put, List.setIfInBounds_toArray, List.set_cons_zero, List.set_cons_succ]
  refine wpAnyH_take (i := 5) (v := ?_) rfl (by kernel_rfl) (by kernel_rfl) (by kernel_rfl) (fun _ _ _ h => h) (Or.inl ⟨by rfl, ?_⟩) hHeld ?_
  rotate_left
  · intro wq hSw
    replace hSw : Grew w0 wq := hSw
    obtain ⟨p1, p2, ep, y0, _⟩ := ((HD.out.grew g0).grew hSw).at 10 (by omega) _ Hf0.out
    simp only [Option.some.injEq, Addr.mk.injEq, and_true] at ep
    obtain ⟨rfl, rfl⟩ := ep
    go_simp
    try with_reducible rfl
  try simp only [List.getElem_toArray, List.getElem_cons_succ, List.getElem_cons_zero, Act.put, List.setIfInBounds_toArray, List.set_cons_zero, List.set_cons_succ]
  refine wpAnyH_take (i := 6) (v := ?_) rfl (by kernel_rfl) (by kernel_rfl) (by kernel_rfl) (fun _ _ _ h => h) (Or.inl ⟨by rfl, ?_⟩) hHeld ?_
  rotate_left
  · intro wq hSw
    replace hSw : Grew w0 wq := hSw
    go_simp
    try with_reducible rfl
  try simp only [List.getElem_toArray, List.getElem_cons_succ, List.getElem_cons_zero, Act.put, List.setIfInBounds_toArray, List.set_cons_zero, List.set_cons_succ]
  refine wpAnyH_take (i := 7) (v := ?_) rfl (by kernel_rfl) (by kernel_rfl) (by kernel_rfl) (fun _ _ _ h => h) (Or.inl ⟨by rfl, ?_⟩) hHeld ?_
  rotate_left
  · intro wq hSw
    replace hSw : Grew w0 wq := hSw
    go_simp
    try with_reducible rfl
  try simp only [List.getElem_toArray, List.getElem_cons_succ, List.getElem_cons_zero, Act.put, List.setIfInBounds_toArray, List.set_cons_zero, List.set_cons_succ]
  refine wpAnyH_take (i := 8) (v := ?_) rfl (by kernel_rfl) (by kernel_rfl) (by kernel_rfl) (fun _ _ _ h => h) (Or.inl ⟨by rfl, ?_⟩) hHeld ?_
  rotate_left
  · intro wq hSw
    replace hSw : Grew w0 wq := hSw
    go_simp
    try with_reducible rfl
  try simp only [List.getElem_toArray, List.getElem_cons_succ, List.getElem_cons_zero, Act.put, List.setIfInBounds_toArray, List.set_cons_zero, List.set_cons_succ]
  refine wpAnyH_take (i := 9) (v := ?_) rfl (by kernel_rfl) (by kernel_rfl) (by kernel_rfl) (fun _ _ _ h => h) (Or.inl ⟨by rfl, ?_⟩) hHeld ?_
  rotate_left
  · intro wq hSw
    replace hSw : Grew w0 wq := hSw
    obtain ⟨p1, p2, ep, y0, _⟩ := ((HD.out.grew g0).grew hSw).at 11 (by omega) _ He1.out
    simp only [Option.some.injEq, Addr.mk.injEq, and_true] at ep
    obtain ⟨rfl, rfl⟩ := ep
    go_simp
    try with_reducible rfl
  try simp only [List.getElem_toArray, List.getElem_cons_succ, List.getElem_cons_zero, Act.put, List.setIfInBounds_toArray, List.set_cons_zero, List.set_cons_succ]
  refine wpAnyH_take (i := 10) (v := ?_) rfl (by kernel_rfl) (by kernel_rfl) (by kernel_rfl) (fun _ _ _ h => h) (Or.inl ⟨by rfl, ?_⟩) hHeld ?_
  rotate_left
  · intro wq hSw
    replace hSw : Grew w0 wq := hSw
    go_simp
    try with_reducible rfl
  try simp only [List.getElem_toArray, List.getElem_cons_succ, List.getElem_cons_zero, Act.put, List.setIfInBounds_toArray, List.set_cons_zero, List.set_cons_succ]
  refine wpAnyH_ready (rs := [11, 16]) (by kernel_rfl) (by simp) ?_
  refine AllReadyH.cons rfl (fun K hK => ?_) (AllReadyH.cons rfl (fun K hK => ?_) AllReadyH.nil)
  · go_simp
    have HRw := Lib.hid (Row.buf (Row.lit wq0 wq0.heap.size (Nat.le_refl _) #[.int .u8 e0, .int .u8 e1, .int .u8 st, .int .u8 0] [e0, e1, st, 0] rfl (by simp [maxLen]) _ rfl 4 rfl) HK.out)
    refine hK.out _ _ (hHeld.alloc _) (fun hHeld => ?_)
    clear hK K
    generalize (wq0.alloc (.cells #[.int .u8 e0, .int .u8 e1, .int .u8 st, .int .u8 0] 5)) = wB at *
    try simp only [List.getElem_toArray, List.getElem_cons_succ, List.getElem_cons_zero, Act.put, List.setIfInBounds_toArray, List.set_cons_zero, List.set_cons_succ]
    refine wpAnyH_ready (rs := [12, 16]) (by kernel_rfl) (by simp) ?_
    refine AllReadyH.cons rfl (fun K hK => ?_) (AllReadyH.cons rfl (fun K hK => ?_) AllReadyH.nil)
    · go_simp
      refine Calls.mono (HFi.out _ _ (HM.out.grew (g0.trans hHeld)) HRw.out) ?_
      rintro e wC ⟨rv, rfl, HB, gC⟩
      obtain ⟨ra, rc, rfl, _, _⟩ := HB.shape
      have HB1 := Lib.hid HB
      clear HB
      refine hK.out _ _ (hHeld.trans gC) (fun hHeld => ?_)
      clear hK K
      clear gC HRw
      try simp only [List.getElem_toArray, List.getElem_cons_succ, List.getElem_cons_zero, Act.put, List.setIfInBounds_toArray, List.set_cons_zero, List.set_cons_succ]
      refine wpAnyH_take (i := 13) (v := ?_) rfl (by kernel_rfl) (by kernel_rfl) (by kernel_rfl) (fun _ _ _ h => h) (Or.inl ⟨by rfl, ?_⟩) hHeld ?_
      rotate_left
      · intro wq hSw
        replace hSw : Grew w0 wq := hSw
        go_simp
        try with_reducible rfl
      try simp only [List.getElem_toArray, List.getElem_cons_succ, List.getElem_cons_zero, Act.put, List.setIfInBounds_toArray, List.set_cons_zero, List.set_cons_succ]
      refine wpAnyH_take (i := 14) (v := ?_) rfl (by kernel_rfl) (by kernel_rfl) (by kernel_rfl) (fun _ _ _ h => h) (Or.inl ⟨by rfl, ?_⟩) hHeld ?_
      rotate_left
      · intro wq hSw
        replace hSw : Grew w0 wq := hSw
        go_simp
        try with_reducible rfl
      try simp only [List.getElem_toArray, List.getElem_cons_succ, List.getElem_cons_zero, Act.put, List.setIfInBounds_toArray, List.set_cons_zero, List.set_cons_succ]
      refine wpAnyH_take (i := 15) (v := ?_) rfl (by kernel_rfl) (by kernel_rfl) (by kernel_rfl) (fun _ _ _ h => h) (Or.inl ⟨by rfl, ?_⟩) hHeld ?_
      rotate_left
      · intro wq hSw
        replace hSw : Grew w0 wq := hSw
        go_simp
        try with_reducible rfl
      try simp only [List.getElem_toArray, List.getElem_cons_succ, List.getElem_cons_zero, Act.put, List.setIfInBounds_toArray, List.set_cons_zero, List.set_cons_succ]
      refine wpAnyH_ready (rs := [16]) (by kernel_rfl) (by simp) ?_
      refine AllReadyH.cons rfl (fun K hK => ?_) AllReadyH.nil
      go_simp
      have lA : w0.heap.size ≤ wC.heap.size := hHeld.size
      have kA := Blk.new wC #[.slice none 0 0] 27 _ rfl
      refine hK.out _ _ (hHeld.alloc _) (fun hHeld => ?_)
      clear hK K
      replace HB1 := Lib.hid (HB1.out.grew ((Grew.refl wC).alloc (.cells #[.slice none 0 0] 27)))
      generalize (wC.alloc (.cells #[.slice none 0 0] 27)) = wA at *
      generalize wC.heap.size = A at *
      try simp only [List.getElem_toArray, List.getElem_cons_succ, List.getElem_cons_zero, Act.put, List.setIfInBounds_toArray, List.set_cons_zero, List.set_cons_succ]
      refine wpAnyH_ready (rs := [17]) (by kernel_rfl) (by simp) ?_
      refine AllReadyH.cons rfl (fun K hK => ?_) AllReadyH.nil
      refine step_st_rm rfl (.tmp 9) (.tmp 25) rfl rfl kA rfl (by rfl) (by rfl) ⟨_, _, _, rfl⟩ ?_
      intro wd kA2 od
      replace HB1 := Lib.hid (HB1.out.only od kA (nb_one _ (fun x h => by cases h)))
      refine hK.out _ _ (od.grew hHeld lA) (fun hHeld => ?_)
      clear hK K
      clear od kA
      try simp only [List.getElem_toArray, List.getElem_cons_succ, List.getElem_cons_zero, Act.put, List.setIfInBounds_toArray, List.set_cons_zero, List.set_cons_succ]
      refine wpAnyH_take (i := 18) (v := ?_) rfl (by kernel_rfl) (by kernel_rfl) (by kernel_rfl) (fun _ _ _ h => h) (Or.inl ⟨by rfl, ?_⟩) hHeld ?_
      rotate_left
      · intro wq hSw
        replace hSw : Grew w0 wq := hSw
        go_simp
        try with_reducible rfl
      try simp only [List.getElem_toArray, List.getElem_cons_succ, List.getElem_cons_zero, Act.put, List.setIfInBounds_toArray, List.set_cons_zero, List.set_cons_succ]
      refine wpAnyH_done (by kernel_rfl) ?_ _
      try simp only [List.getElem_toArray, List.getElem_cons_succ, List.getElem_cons_zero, Act.put, List.setIfInBounds_toArray, List.set_cons_zero, List.set_cons_succ]
      have kQ2 := kQ.grew hHeld
      have g3 := g0.trans hHeld
      clear hHeld kM kQ g0 c10 c11 l10 l11
      go_wp2_with (first | (refine ld_rm rfl (.tmp 9) rfl _ rfl kA2 (by rfl) ?_) | (refine st_rm rfl (.tmp 8) (.tmp 27) rfl rfl kQ2 rfl (by rfl) (by rfl) ⟨_, _, _, rfl⟩ ?_; intro wc kQ3 oQ))
      have HB3 := Lib.hid (HB1.out.only oQ kQ2 (nb_one _ (fun x h => by cases h)))
      have g4 : Grew w wc := oQ.grew g3 LQ.out
      exact bodyPost_ret (v := .agg #[.slice ra _ rc]) (results_m1 (p := 8) Try.results46 _ _ Q kQ3 rfl) rfl ⟨_, _, _, rfl, HB3, g4⟩
    · go_simp
      have lA : w0.heap.size ≤ wB.heap.size := hHeld.size
      have kA := Blk.new wB #[.slice none 0 0] 27 _ rfl
      refine hK.out _ _ (hHeld.alloc _) (fun hHeld => ?_)
      clear hK K
      replace HRw := Lib.hid (HRw.out.grew ((Grew.refl wB).alloc (.cells #[.slice none 0 0] 27)))
      generalize (wB.alloc (.cells #[.slice none 0 0] 27)) = wA at *
      generalize wB.heap.size = A at *
      try simp only [List.getElem_toArray, List.getElem_cons_succ, List.getElem_cons_zero, Act.put, List.setIfInBounds_toArray, List.set_cons_zero, List.set_cons_succ]
      refine wpAnyH_ready (rs := [12]) (by kernel_rfl) (by simp) ?_
      refine AllReadyH.cons rfl (fun K hK => ?_) AllReadyH.nil
      go_simp
      refine Calls.mono (HFi.out _ _ (HM.out.grew (g0.trans hHeld)) HRw.out) ?_
      rintro e wC ⟨rv, rfl, HB, gC⟩
      obtain ⟨ra, rc, rfl, _, _⟩ := HB.shape
      have HB1 := Lib.hid HB
      clear HB
      refine hK.out _ _ (hHeld.trans gC) (fun hHeld => ?_)
      clear hK K
      replace kA := kA.grew gC
      clear gC HRw
      try simp only [List.getElem_toArray, List.getElem_cons_succ, List.getElem_cons_zero, Act.put, List.setIfInBounds_toArray, List.set_cons_zero, List.set_cons_succ]
      refine wpAnyH_take (i := 13) (v := ?_) rfl (by kernel_rfl) (by kernel_rfl) (by kernel_rfl) (fun _ _ _ h => h) (Or.inl ⟨by rfl, ?_⟩) hHeld ?_
      rotate_left
      · intro wq hSw
        replace hSw : Grew w0 wq := hSw
        go_simp
        try with_reducible rfl
      try simp only [List.getElem_toArray, List.getElem_cons_succ, List.getElem_cons_zero, Act.put, List.setIfInBounds_toArray, List.set_cons_zero, List.set_cons_succ]
      refine wpAnyH_take (i := 14) (v := ?_) rfl (by kernel_rfl) (by kernel_rfl) (by kernel_rfl) (fun _ _ _ h => h) (Or.inl ⟨by rfl, ?_⟩) hHeld ?_
      rotate_left
      · intro wq hSw
        replace hSw : Grew w0 wq := hSw
        go_simp
        try with_reducible rfl
      try simp only [List.getElem_toArray, List.getElem_cons_succ, List.getElem_cons_zero, Act.put, List.setIfInBounds_toArray, List.set_cons_zero, List.set_cons_succ]
      refine wpAnyH_take (i := 15) (v := ?_) rfl (by kernel_rfl) (by kernel_rfl) (by kernel_rfl) (fun _ _ _ h => h) (Or.inl ⟨by rfl, ?_⟩) hHeld ?_
      rotate_left
      · intro wq hSw
        replace hSw : Grew w0 wq := hSw
        go_simp
        try with_reducible rfl
      try simp only [List.getElem_toArray, List.getElem_cons_succ, List.getElem_cons_zero, Act.put, List.setIfInBounds_toArray, List.set_cons_zero, List.set_cons_succ]
      refine wpAnyH_ready (rs := [17]) (by kernel_rfl) (by simp) ?_
      refine AllReadyH.cons rfl (fun K hK => ?_) AllReadyH.nil
      refine step_st_rm rfl (.tmp 9) (.tmp 25) rfl rfl kA rfl (by rfl) (by rfl) ⟨_, _, _, rfl⟩ ?_
      intro wd kA2 od
      replace HB1 := Lib.hid (HB1.out.only od kA (nb_one _ (fun x h => by cases h)))
      refine hK.out _ _ (od.grew hHeld lA) (fun hHeld => ?_)
      clear hK K
      clear od kA
      try simp only [List.getElem_toArray, List.getElem_cons_succ, List.getElem_cons_zero, Act.put, List.setIfInBounds_toArray, List.set_cons_zero, List.set_cons_succ]
      refine wpAnyH_take (i := 18) (v := ?_) rfl (by kernel_rfl) (by kernel_rfl) (by kernel_rfl) (fun _ _ _ h => h) (Or.inl ⟨by rfl, ?_⟩) hHeld ?_
      rotate_left
      · intro wq hSw
        replace hSw : Grew w0 wq := hSw
        go_simp
        try with_reducible rfl
      try simp only [List.getElem_toArray, List.getElem_cons_succ, List.getElem_cons_zero, Act.put, List.setIfInBounds_toArray, List.set_cons_zero, List.set_cons_succ]
      refine wpAnyH_done (by kernel_rfl) ?_ _
      try simp only [List.getElem_toArray, List.getElem_cons_succ, List.getElem_cons_zero, Act.put, List.setIfInBounds_toArray, List.set_cons_zero, List.set_cons_succ]
      have kQ2 := kQ.grew hHeld
      have g3 := g0.trans hHeld
      clear hHeld kM kQ g0 c10 c11 l10 l11
      go_wp2_with (first | (refine ld_rm rfl (.tmp 9) rfl _ rfl kA2 (by rfl) ?_) | (refine st_rm rfl (.tmp 8) (.tmp 27) rfl rfl kQ2 rfl (by rfl) (by rfl) ⟨_, _, _, rfl⟩ ?_; intro wc kQ3 oQ))
      have HB3 := Lib.hid (HB1.out.only oQ kQ2 (nb_one _ (fun x h => by cases h)))
      have g4 : Grew w wc := oQ.grew g3 LQ.out
      exact bodyPost_ret (v := .agg #[.slice ra _ rc]) (results_m1 (p := 8) Try.results46 _ _ Q kQ3 rfl) rfl ⟨_, _, _, rfl, HB3, g4⟩
  · go_simp
    have lA : w0.heap.size ≤ wq0.heap.size := hHeld.size
    have kA := Blk.new wq0 #[.slice none 0 0] 27 _ rfl
    refine hK.out _ _ (hHeld.alloc _) (fun hHeld => ?_)
    clear hK K
    generalize (wq0.alloc (.cells #[.slice none 0 0] 27)) = wA at *
    generalize wq0.heap.size = A at *
    try simp only [List.getElem_toArray, List.getElem_cons_succ, List.getElem_cons_zero, Act.put, List.setIfInBounds_toArray, List.set_cons_zero, List.set_cons_succ]
    refine wpAnyH_ready (rs := [11]) (by kernel_rfl) (by simp) ?_
    refine AllReadyH.cons rfl (fun K hK => ?_) AllReadyH.nil
    go_simp
    have HRw := Lib.hid (Row.buf (Row.lit wA wA.heap.size (Nat.le_refl _) #[.int .u8 e0, .int .u8 e1, .int .u8 st, .int .u8 0] [e0, e1, st, 0] rfl (by simp [maxLen]) _ rfl 4 rfl) HK.out)
    refine hK.out _ _ (hHeld.alloc _) (fun hHeld => ?_)
    clear hK K
    replace kA := kA.alloc (.cells #[.int .u8 e0, .int .u8 e1, .int .u8 st, .int .u8 0] 5)
    generalize (wA.alloc (.cells #[.int .u8 e0, .int .u8 e1, .int .u8 st, .int .u8 0] 5)) = wB at *
    try simp only [List.getElem_toArray, List.getElem_cons_succ, List.getElem_cons_zero, Act.put, List.setIfInBounds_toArray, List.set_cons_zero, List.set_cons_succ]
    refine wpAnyH_ready (rs := [12]) (by kernel_rfl) (by simp) ?_
    refine AllReadyH.cons rfl (fun K hK => ?_) AllReadyH.nil
    go_simp
    refine Calls.mono (HFi.out _ _ (HM.out.grew (g0.trans hHeld)) HRw.out) ?_
    rintro e wC ⟨rv, rfl, HB, gC⟩
    obtain ⟨ra, rc, rfl, _, _⟩ := HB.shape
    have HB1 := Lib.hid HB
    clear HB
    refine hK.out _ _ (hHeld.trans gC) (fun hHeld => ?_)
    clear hK K
    replace kA := kA.grew gC
    clear gC HRw
    try simp only [List.getElem_toArray, List.getElem_cons_succ, List.getElem_cons_zero, Act.put, List.setIfInBounds_toArray, List.set_cons_zero, List.set_cons_succ]
    refine wpAnyH_take (i := 13) (v := ?_) rfl (by kernel_rfl) (by kernel_rfl) (by kernel_rfl) (fun _ _ _ h => h) (Or.inl ⟨by rfl, ?_⟩) hHeld ?_
    rotate_left
    · intro wq hSw
      replace hSw : Grew w0 wq := hSw
      go_simp
      try with_reducible rfl
    try simp only [List.getElem_toArray, List.getElem_cons_succ, List.getElem_cons_zero, Act.put, List.setIfInBounds_toArray, List.set_cons_zero, List.set_cons_succ]
    refine wpAnyH_take (i := 14) (v := ?_) rfl (by kernel_rfl) (by kernel_rfl) (by kernel_rfl) (fun _ _ _ h => h) (Or.inl ⟨by rfl, ?_⟩) hHeld ?_
    rotate_left
    · intro wq hSw
      replace hSw : Grew w0 wq := hSw
      go_simp
      try with_reducible rfl
    try simp only [List.getElem_toArray, List.getElem_cons_succ, List.getElem_cons_zero, Act.put, List.setIfInBounds_toArray, List.set_cons_zero, List.set_cons_succ]
    refine wpAnyH_take (i := 15) (v := ?_) rfl (by kernel_rfl) (by kernel_rfl) (by kernel_rfl) (fun _ _ _ h => h) (Or.inl ⟨by rfl, ?_⟩) hHeld ?_
    rotate_left
    · intro wq hSw
      replace hSw : Grew w0 wq := hSw
      go_simp
      try with_reducible rfl
    try simp only [List.getElem_toArray, List.getElem_cons_succ, List.getElem_cons_zero, Act.put, List.setIfInBounds_toArray, List.set_cons_zero, List.set_cons_succ]
    refine wpAnyH_ready (rs := [17]) (by kernel_rfl) (by simp) ?_
    refine AllReadyH.cons rfl (fun K hK => ?_) AllReadyH.nil
    refine step_st_rm rfl (.tmp 9) (.tmp 25) rfl rfl kA rfl (by rfl) (by rfl) ⟨_, _, _, rfl⟩ ?_
    intro wd kA2 od
    replace HB1 := Lib.hid (HB1.out.only od kA (nb_one _ (fun x h => by cases h)))
    refine hK.out _ _ (od.grew hHeld lA) (fun hHeld => ?_)
    clear hK K
    clear od kA
    try simp only [List.getElem_toArray, List.getElem_cons_succ, List.getElem_cons_zero, Act.put, List.setIfInBounds_toArray, List.set_cons_zero, List.set_cons_succ]
    refine wpAnyH_take (i := 18) (v := ?_) rfl (by kernel_rfl) (by kernel_rfl) (by kernel_rfl) (fun _ _ _ h => h) (Or.inl ⟨by rfl, ?_⟩) hHeld ?_
    rotate_left
    · intro wq hSw
      replace hSw : Grew w0 wq := hSw
      go_simp
      try with_reducible rfl
    try simp only [List.getElem_toArray, List.getElem_cons_succ, List.getElem_cons_zero, Act.put, List.setIfInBounds_toArray, List.set_cons_zero, List.set_cons_succ]
    refine wpAnyH_done (by kernel_rfl) ?_ _
    try simp only [List.getElem_toArray, List.getElem_cons_succ, List.getElem_cons_zero, Act.put, List.setIfInBounds_toArray, List.set_cons_zero, List.set_cons_succ]
    have kQ2 := kQ.grew hHeld
    have g3 := g0.trans hHeld
    clear hHeld kM kQ g0 c10 c11 l10 l11
    go_wp2_with (first | (refine ld_rm rfl (.tmp 9) rfl _ rfl kA2 (by rfl) ?_) | (refine st_rm rfl (.tmp 8) (.tmp 27) rfl rfl kQ2 rfl (by rfl) (by rfl) ⟨_, _, _, rfl⟩ ?_; intro wc kQ3 oQ))
    have HB3 := Lib.hid (HB1.out.only oQ kQ2 (nb_one _ (fun x h => by cases h)))
    have g4 : Grew w wc := oQ.grew g3 LQ.out
    exact bodyPost_ret (v := .agg #[.slice ra _ rc]) (results_m1 (p := 8) Try.results46 _ _ Q kQ3 rfl) rfl ⟨_, _, _, rfl, HB3, g4⟩
theorem mine_same {fs m : List Int} (h6 : m.length = 6) (hf : 6 ≤ fs.length) : mineK fs m 6 = sameB (cutL fs 0 6) m ∧ everK fs 6 = allFF (cutL fs 0 6) := by
  match m, h6, fs, hf with
  | [a0, a1, a2, a3, a4, a5], _, f0 :: f1 :: f2 :: f3 :: f4 :: f5 :: r, _ =>
    constructor
    · rw [Bool.eq_iff_iff]
      simp [mineK, sameB, cutL, and_assoc]
    · rw [Bool.eq_iff_iff]
      simp [everK, allFF, cutL, and_assoc]
theorem wanted_takes {c : Nat → Int} {m fs : List Int} (h0 : 0 ≤ c 0) (h1 : c 0 < 8) (hi : MacIs c m) (hm : AreBytes m) (hfr : frameB fs.length = true) : wantedB c m fs = takesB c fs := by
  have h14 : 6 ≤ fs.length := by
    unfold frameB at hfr
    simp only [Bool.and_eq_true, decide_eq_true_eq] at hfr
    omega
  obtain ⟨e1, e2⟩ := mine_same (fs := fs) hi.1 h14
  unfold wantedB takesB
  rw [hfr, hi.mac hm, e1, e2, Bool.true_and, Bool.or_assoc]
  congr 1
  unfold bitB
  have : (c 0).tdiv 4 = c 0 / 4 := Int.tdiv_eq_ediv_of_nonneg h0
  rw [this]
  congr 1
  omega
theorem done4 {ds : List Int} {st : Int} (h : AreBytes ds) (h16 : ds.length = 16) (h0 : 0 ≤ st) (h1 : st < 256) : putL (bothV ds st) 4 false = [ds.getD 10 0 - ds.getD 10 0 % 2, ds.getD 11 0, st, 0] := by
  have hc : cutL ds 10 12 = [ds.getD 10 0, ds.getD 11 0] := by
    apply List.ext_getElem?
    intro i
    simp only [cutL, show 12 - 10 = 2 by omega]
    match i with
    | 0 => rw [List.getElem?_take_of_lt (by omega), List.getElem?_drop, List.getD_eq_getElem?_getD, List.getElem?_eq_getElem (show 10 + 0 < ds.length by omega)]; simp [List.getElem?_eq_getElem (show 10 < ds.length by omega)]
    | 1 => rw [List.getElem?_take_of_lt (by omega), List.getElem?_drop, List.getD_eq_getElem?_getD, List.getElem?_eq_getElem (show 10 + 1 < ds.length by omega)]; simp [List.getElem?_eq_getElem (show 11 < ds.length by omega)]
    | n + 2 => rw [List.getElem?_take_eq_none (by omega)]; simp
  have d0 := h.getD 10
  have d1 := h.getD 11
  have hb := bothV_eq h h16 st h0 h1
  rw [hc, show getV [ds.getD 10 0, ds.getD 11 0] false = ds.getD 10 0 + ds.getD 11 0 * 256 by simp [getV, getTo, placeV]] at hb
  generalize ds.getD 10 0 = a at *
  generalize ds.getD 11 0 = b at *
  have e : bothV ds st = getV [a - a % 2, b, st, 0] false := by
    rw [hb, show getV [a - a % 2, b, st, 0] false = a - a % 2 + b * 256 + st * 65536 by simp [getV, getTo, placeV]]
    omega
  rw [e]
  exact putL_getV (ys := [a - a % 2, b, st, 0]) (fun y hy => by
    simp only [List.mem_cons, List.not_mem_nil, or_false] at hy
    rcases hy with rfl | rfl | rfl | rfl <;> omega) (by simp)
end Go.Proofs.Ytoehdhhodidehaa
