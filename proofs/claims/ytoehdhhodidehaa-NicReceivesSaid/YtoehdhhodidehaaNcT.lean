/-
  Package nic: find, Load, Store, New.
-/
import Derived.Test.YtoehdhhodidehaaRows
import Derived.Test.YtoehdhhodidehaaNcR
import Derived.Test.YtoehdhhodidehaaNcS
import Derived.Test.YtoehdhhodidehaaNcD
import Derived.Test.YtoehdhhodidehaaNcE
import Derived.Test.YtoehdhhodidehaaNcI
import Derived.WalkKit
import Derived.Outline
import Derived.Handy
import Derived.StillTailTactics
import Derived.Deep.QuietTactic
import Derived.BigQuiet
import Derived.Deep.DeepCutAuto
import Derived.Deep.RegionHeld3
import Derived.Great.BuildSlice
import Derived.Deep.WholeRow
import Derived.Lib.SliceRun
import Derived.BigFrame
set_option maxRecDepth 4000
set_option linter.unusedVariables false
set_option linter.unusedSimpArgs false
namespace Go.Proofs.Ytoehdhhodidehaa
open Go.RowKit

/-- No register of that size is there. -/
def badL (c : Nat → Int) (n : Nat) (off size : Int) : Bool := !chkB c n || (!(size == 4) || (decide (60 ≤ off) || !(off % 4 == 0)))
theorem badL_no {c : Nat → Int} {n : Nat} {off size : Int} (h0 : 0 ≤ off) (h : badL c n off size = false) : chkB c n = true ∧ size = 4 ∧ ∃ k : Nat, k < 15 ∧ off = 4 * (k : Int) := by
  simp only [badL, Bool.or_eq_false_iff, Bool.not_eq_false', beq_iff_eq, decide_eq_false_iff_not] at h
  obtain ⟨h1, h2, h3, h4⟩ := h
  exact ⟨h1, h2, (off / 4).toNat, by omega, by omega⟩
set_option maxHeartbeats 2000000 in
theorem find_no (c : Nat → Int) (a : Option Addr) (n k : Nat) (off size : Int) (h0 : 0 ≤ off) (h : badL c n off size = true) (w : World) : Calls Try.prog 41 #[ncV c (.slice a n k), .int .u64 off, .int .i64 size] w fun e w' => e = .returned (.tuple #[.pointer none, .int .i64 0, .bool false]) ∧ Grew w w' := by
  have hC := Lib.hid (check_c c a n k)
  have hmod : off.tmod 4 = off % 4 := Int.tmod_eq_emod_of_nonneg h0
  unfold badL at h
  generalize chkB c n = b0 at *
  cases b1 : (size == 4) <;> cases b2 : decide (60 ≤ off) <;> cases b3 : (off % 4 == 0) <;> cases b0
  all_goals first | (exfalso; rw [b1, b2, b3] at h; simp at h; done) | skip
  all_goals
    clear h
    have b1' : (size != 4) = !(size == 4) := rfl
    rw [b1] at b1'
    have b3' : (off % 4 != 0) = !(off % 4 == 0) := rfl
    rw [b3] at b3'
    simp only [decide_eq_true_eq, decide_eq_false_iff_not] at b2
    simp only [Bool.not_true, Bool.not_false] at b1' b3'
    go_enter Try.func41, Try.ntmps41
    go_upto_region 1 with fail
    have kN : Blk (w.alloc (.cells (ncA c (.slice a n k)) 25)) w.heap.size (ncA c (.slice a n k)) 25 := Blk.new _ _ _ _ rfl
    have g0 : Grew w (w.alloc (.cells (ncA c (.slice a n k)) 25)) := (Grew.refl w).alloc _
    generalize (w.alloc (.cells (ncA c (.slice a n k)) 25)) = w0 at *
    generalize w.heap.size = N at *
    go_wp2_with (refine ld_nc rfl (.tmp 3) rfl _ rfl kN (by rfl) ?_)
    refine (hC.out _).mono ?_
    rintro e w1 ⟨rfl, g1⟩
    go_wp2_with fail
    go_returns
    exact ⟨rfl, g0.trans g1⟩
set_option maxHeartbeats 2000000 in
theorem find_yes {c : Nat → Int} {m : List Int} {a : Option Addr} {j : Nat} {w : World} (hc : ROk c) (hm : MacIs c m) (hB : Buf w (.slice a 6 j) m) {k : Nat} (hk : k < 15) : Calls Try.prog 41 #[ncV c (.slice a 6 j), .int .u64 (4 * (k : Int)), .int .i64 4] w fun e w' => ∃ p, e = .returned (.tuple #[.pointer (some ⟨p, 0, none⟩), .int .i64 k, .bool true]) ∧ w.heap.size ≤ p ∧ Blk w' p (rgA c) 80 ∧ Grew w w' := by
  have hC := check_c c a 6 j
  rw [ok_chk hc] at hC
  have HC := Lib.hid hC
  have HT := Lib.hid (fun (w : World) (h : Buf w (.slice a 6 j) m) => taken_c hm hc.rg h)
  have HB := Lib.hid hB
  have h1 : ¬ (60 ≤ 4 * (k : Int)) := by omega
  have h2 : (4 * (k : Int)) % 4 = 0 := by omega
  have h2' : (4 * (k : Int)).tmod 4 = 0 := by rw [Int.tmod_eq_emod_of_nonneg (by omega)]; exact h2
  have h3 : (4 * (k : Int)) / 4 = (k : Int) := by omega
  have h3' : (4 * (k : Int)).tdiv 4 = (k : Int) := by rw [Int.tdiv_eq_ediv_of_nonneg (by omega)]; exact h3
  have h4 : IntKind.i64.wrap (k : Int) = (k : Int) := IntWalk.i64_in _ (by omega)
  have h5 : IntKind.u64.wrap (k : Int) = (k : Int) := IntWalk.u64_in _ (by omega)
  have h6 : 0 ≤ 4 * (k : Int) := by omega
  have h7 : 4 * (k : Int) < 18446744073709551616 := by omega
  clear hC hB hk hm hc
  generalize 4 * (k : Int) = x at *
  go_enter Try.func41, Try.ntmps41
  go_upto_region 1 with fail
  have kN : Blk (w.alloc (.cells (ncA c (.slice a 6 j)) 25)) w.heap.size (ncA c (.slice a 6 j)) 25 := Blk.new _ _ _ _ rfl
  have g0 : Grew w (w.alloc (.cells (ncA c (.slice a 6 j)) 25)) := (Grew.refl w).alloc _
  generalize (w.alloc (.cells (ncA c (.slice a 6 j)) 25)) = w0 at *
  have lN := kN.lt
  go_wp2_with (refine ld_nc rfl (.tmp 3) rfl _ rfl kN (by rfl) ?_)
  refine (HC.out _).mono ?_
  rintro e w1 ⟨rfl, g1⟩
  have kN1 := kN.grew g1
  have g01 := g0.trans g1
  go_wp2_with (refine ld_nc rfl (.tmp 3) rfl _ rfl kN1 (by rfl) ?_)
  refine (HT.out _ (HB.out.grew g01)).mono ?_
  rintro e w2 ⟨p, rfl, hp, hR, g2⟩
  go_wp2_with fail
  go_returns
  exact ⟨p, rfl, by have := g01.size; omega, hR, g01.trans g2⟩
def ldV (c : Nat → Int) (n : Nat) (off size : Int) : Int := if badL c n off size then 0 else c (off / 4).toNat
set_option maxHeartbeats 1000000 in
theorem Load_no (c : Nat → Int) (a : Option Addr) (n k : Nat) (off size : Int) (h0 : 0 ≤ off) (h : badL c n off size = true) (w : World) : Calls Try.prog 13 #[ncV c (.slice a n k), .int .u64 off, .int .i64 size] w fun e w' => e = .returned (.tuple #[.int .u64 0, .bool false]) ∧ Grew w w' := by
  have hF := Lib.hid (find_no c a n k off size h0 h)
  clear h h0
  go_enter Try.func13, Try.ntmps13
  go_upto_region 1 with fail
  have kN : Blk (w.alloc (.cells (ncA c (.slice a n k)) 25)) w.heap.size (ncA c (.slice a n k)) 25 := Blk.new _ _ _ _ rfl
  have g0 : Grew w (w.alloc (.cells (ncA c (.slice a n k)) 25)) := (Grew.refl w).alloc _
  generalize (w.alloc (.cells (ncA c (.slice a n k)) 25)) = w0 at *
  go_wp2_with (refine ld_nc rfl (.tmp 3) rfl _ rfl kN (by rfl) ?_)
  refine (hF.out _).mono ?_
  rintro e w1 ⟨rfl, g1⟩
  go_wp2_with fail
  go_ret2
  exact ⟨rfl, g0.trans g1⟩
set_option maxHeartbeats 1000000 in
theorem Load_yes {c : Nat → Int} {m : List Int} {a : Option Addr} {j : Nat} {w : World} (hc : ROk c) (hm : MacIs c m) (hB : Buf w (.slice a 6 j) m) {k : Nat} (hk : k < 15) : Calls Try.prog 13 #[ncV c (.slice a 6 j), .int .u64 (4 * (k : Int)), .int .i64 4] w fun e w' => e = .returned (.tuple #[.int .u64 (c k), .bool true]) ∧ Grew w w' := by
  have hF := Lib.hid (fun (w : World) (h : Buf w (.slice a 6 j) m) => find_yes hc hm h hk)
  have HB := Lib.hid hB
  have hb := hc.rg k hk
  have hw : IntKind.u64.wrap (c k) = c k := IntWalk.u64_in _ (by omega)
  have hk0 : (0 : Int) ≤ (k : Int) := by omega
  have hk1 : (k : Int) < 15 := by omega
  clear hB hm hc hb
  go_enter Try.func13, Try.ntmps13
  go_upto_region 1 with fail
  have kN : Blk (w.alloc (.cells (ncA c (.slice a 6 j)) 25)) w.heap.size (ncA c (.slice a 6 j)) 25 := Blk.new _ _ _ _ rfl
  have g0 : Grew w (w.alloc (.cells (ncA c (.slice a 6 j)) 25)) := (Grew.refl w).alloc _
  generalize (w.alloc (.cells (ncA c (.slice a 6 j)) 25)) = w0 at *
  go_wp2_with (refine ld_nc rfl (.tmp 3) rfl _ rfl kN (by rfl) ?_)
  refine (hF.out _ (HB.out.grew g0)).mono ?_
  rintro e w1 ⟨p, rfl, hp, hR, g1⟩
  have c0 := hR.rgC k hk
  clear hp hR
  go_wp2_with fail
  go_ret2
  exact ⟨rfl, g0.trans g1⟩
theorem load_c {c : Nat → Int} {m : List Int} (hm : MacOf c m) {a : Option Addr} {j : Nat} {off size : Int} (h0 : 0 ≤ off) {w : World} (hB : Buf w (.slice a m.length j) m) : Calls Try.prog 13 #[ncV c (.slice a m.length j), .int .u64 off, .int .i64 size] w fun e w' => e = .returned (.tuple #[.int .u64 (ldV c m.length off size), .bool (!badL c m.length off size)]) ∧ Grew w w' := by
  unfold ldV
  cases hb : badL c m.length off size
  · obtain ⟨h1, rfl, k, hk, rfl⟩ := badL_no h0 hb
    obtain ⟨hc, hi⟩ := chk_ok hm hB.ok h1
    have h6 := hi.1
    rw [h6] at hB ⊢
    have := Load_yes hc hi hB hk
    rw [show (4 * (k : Int) / 4).toNat = k by omega]
    exact this
  · exact Load_no c a m.length j off size h0 hb w
theorem results_nb {fn : Func} {p q : Tmp} (h : fn.results = #[.cell p 25, .tmp q]) (tmps : Array Value) (w : World) (g : Nat) {c : Nat → Int} {u : Value} {T : TypeId} (k : Blk w g (ncA c u) T)
    (hp : tmps.getD p undef = .pointer (some ⟨g, 0, none⟩)) : (results fn tmps).run Try.prog w = .ok (.tuple #[ncV c u, tmps.getD q undef]) w := by
  have hp' : tmps[p]?.getD undef = .pointer (some ⟨g, 0, none⟩) := by simpa using hp
  simp [results, h, hp', asAddr, var_nc k]
def stS (c : Nat → Int) (n : Nat) (off size x : Int) : Nat → Int := if badL c n off size then c else stC (off / 4).toNat (x % 4294967296) c
set_option maxHeartbeats 1000000 in
theorem Store_no {c : Nat → Int} {m : List Int} {a : Option Addr} {j : Nat} {w : World} (off size x : Int) (h0 : 0 ≤ off) (hl : m.length ≤ 140737488355328) (h : badL c m.length off size = true) (hB : Buf w (.slice a m.length j) m) : Calls Try.prog 15 #[ncV c (.slice a m.length j), .int .u64 off, .int .i64 size, .int .u64 x] w fun e w' => ∃ b i, e = .returned (.tuple #[ncV c (.slice b m.length i), .bool false]) ∧ Hid (Buf w' (.slice b m.length i) m) ∧ Grew w w' := by
  have hF := Lib.hid (find_no c a m.length j off size h0 h)
  have hO := Lib.hid (fun (w : World) (h : Buf w (.slice a m.length j) m) => ownN_c (c := c) hl h)
  have HB := Lib.hid hB
  have HK := Lib.hid hB.ok
  clear h h0 hl hB
  generalize hn : m.length = n at *
  have HN := Lib.hid hn
  clear hn
  go_enter Try.func15, Try.ntmps15
  go_upto_region 1 with fail
  have kN : Blk ((w.alloc (.cells (ncA c (.slice a n j)) 25)).alloc (.cells zeroN 25)) w.heap.size (ncA c (.slice a n j)) 25 := (Blk.new w (ncA c (.slice a n j)) 25 _ rfl).alloc (.cells zeroN 25)
  have kR : Blk ((w.alloc (.cells (ncA c (.slice a n j)) 25)).alloc (.cells zeroN 25)) (w.heap.size + 1) zeroN 25 := Blk.new (w.alloc (.cells (ncA c (.slice a n j)) 25)) zeroN 25 _ (by simp)
  have g0 : Grew w ((w.alloc (.cells (ncA c (.slice a n j)) 25)).alloc (.cells zeroN 25)) := ((Grew.refl w).alloc (.cells (ncA c (.slice a n j)) 25)).alloc (.cells zeroN 25)
  generalize ((w.alloc (.cells (ncA c (.slice a n j)) 25)).alloc (.cells zeroN 25)) = w0 at *
  have lN : w.heap.size ≤ w.heap.size := by omega
  have lR : w.heap.size ≤ (w.heap.size + 1) := by omega
  have nNR : w.heap.size ≠ (w.heap.size + 1) := by omega
  have nRN : (w.heap.size + 1) ≠ w.heap.size := by omega
  generalize (w.heap.size + 1) = R at *
  generalize hZ : w.heap.size = N at *
  have HZ := Lib.hid hZ
  clear hZ
  have LN : Hid (w.heap.size ≤ N) := Lib.hid (by rw [HZ.out]; exact lN)
  have LR : Hid (w.heap.size ≤ R) := Lib.hid (by rw [HZ.out]; exact lR)
  go_wp2_with (refine ld_nc rfl (.tmp 4) rfl _ rfl kN (by rfl) ?_)
  refine (hF.out _).mono ?_
  rintro e w1 ⟨rfl, g1⟩
  have kN1 := kN.grew g1
  have kR1 := kR.grew g1
  have g01 := g0.trans g1
  go_upto_region 3 with fail
  go_wp2_with (refine ld_nc rfl (.tmp 4) rfl _ rfl kN1 (by rfl) ?_)
  refine (hO.out _ (HB.out.grew g01)).mono ?_
  rintro e w2 ⟨b, i, rfl, HR, g2⟩
  have kR2 := kR1.grew g2
  go_wp2_with (refine st_nc rfl (.tmp 8) (.tmp 24) rfl rfl c kR2 rfl (by rfl) (by rfl) ⟨_, _, _, rfl⟩ ?_; intro w3 kR3 o3)
  have g3 : Grew w w3 := o3.grew (g01.trans g2) LR.out
  exact bodyPost_ret (v := .tuple #[ncV c (.slice b n i), .bool false]) (results_nb (p := 8) (q := 9) Try.results15 _ _ R kR3 rfl) rfl ⟨b, i, rfl, Lib.hid ((HR.out.only o3 kR2 (by decide)).buf HK.out), g3⟩
theorem stC_13 (k : Nat) (y : Int) (c : Nat → Int) : stC k y c 13 = c 13 := by
  unfold stC begint beginr reacht reachr
  repeat' split
  all_goals rfl
theorem stC_14 (k : Nat) (y : Int) (c : Nat → Int) : stC k y c 14 = c 14 := by
  unfold stC begint beginr reacht reachr
  repeat' split
  all_goals rfl
set_option maxHeartbeats 1000000 in
theorem Store_yes {c : Nat → Int} {m : List Int} {a : Option Addr} {j : Nat} {w : World} (hc : ROk c) (hm : MacIs c m) (x : Int) (h0 : 0 ≤ x) {k : Nat} (hk : k < 15) (hB : Buf w (.slice a 6 j) m) : Calls Try.prog 15 #[ncV c (.slice a 6 j), .int .u64 (4 * (k : Int)), .int .i64 4, .int .u64 x] w fun e w' => ∃ b i, e = .returned (.tuple #[ncV (stC k (x % 4294967296) c) (.slice b 6 i), .bool true]) ∧ Hid (Buf w' (.slice b 6 i) m) ∧ Grew w w' := by
  have hF := Lib.hid (fun (w : World) (h : Buf w (.slice a 6 j) m) => find_yes hc hm h hk)
  have hS := Lib.hid (fun (w : World) (p : Nat) (h : Blk w p (rgA c) 80) => store_k h (y := x % 4294967296) (by omega) (by omega) hk)
  have hc2 := hc.st (y := x % 4294967296) (by omega) (by omega) k
  have hi2 : MacIs (stC k (x % 4294967296) c) m := ⟨hm.1, by rw [stC_13]; exact hm.2.1, by rw [stC_14]; exact hm.2.2⟩
  have hme := Lib.hid (hi2.mac hB.ok)
  have hNi := Lib.hid (fun (w : World) (p : Nat) (h : Blk w p (rgA (stC k (x % 4294967296) c)) 80) => nic_c h hc2.rg)
  have HB := Lib.hid hB
  have HK := Lib.hid hB.ok
  have hw : IntKind.u32.wrap x = x % 4294967296 := by simp [IntKind.wrap, IntKind.bits, IntKind.signed]
  generalize stC k (x % 4294967296) c = c2 at *
  generalize x % 4294967296 = y at *
  clear hB hm hc hc2 hi2 h0 hk
  go_enter Try.func15, Try.ntmps15
  go_upto_region 1 with fail
  have kN : Blk ((w.alloc (.cells (ncA c (.slice a 6 j)) 25)).alloc (.cells zeroN 25)) w.heap.size (ncA c (.slice a 6 j)) 25 := (Blk.new w (ncA c (.slice a 6 j)) 25 _ rfl).alloc (.cells zeroN 25)
  have kR : Blk ((w.alloc (.cells (ncA c (.slice a 6 j)) 25)).alloc (.cells zeroN 25)) (w.heap.size + 1) zeroN 25 := Blk.new (w.alloc (.cells (ncA c (.slice a 6 j)) 25)) zeroN 25 _ (by simp)
  have g0 : Grew w ((w.alloc (.cells (ncA c (.slice a 6 j)) 25)).alloc (.cells zeroN 25)) := ((Grew.refl w).alloc (.cells (ncA c (.slice a 6 j)) 25)).alloc (.cells zeroN 25)
  generalize ((w.alloc (.cells (ncA c (.slice a 6 j)) 25)).alloc (.cells zeroN 25)) = w0 at *
  have lN : w.heap.size ≤ w.heap.size := by omega
  have lR : w.heap.size ≤ (w.heap.size + 1) := by omega
  have nNR : w.heap.size ≠ (w.heap.size + 1) := by omega
  have nRN : (w.heap.size + 1) ≠ w.heap.size := by omega
  generalize (w.heap.size + 1) = R at *
  generalize hZ : w.heap.size = N at *
  have HZ := Lib.hid hZ
  clear hZ
  have LN : Hid (w.heap.size ≤ N) := Lib.hid (by rw [HZ.out]; exact lN)
  have LR : Hid (w.heap.size ≤ R) := Lib.hid (by rw [HZ.out]; exact lR)
  go_wp2_with (refine ld_nc rfl (.tmp 4) rfl _ rfl kN (by rfl) ?_)
  refine (hF.out _ (HB.out.grew g0)).mono ?_
  rintro e w1 ⟨p, rfl, hp, hR, g1⟩
  have kR1 := kR.grew g1
  have lR0 := kR.lt
  have g01 := g0.trans g1
  go_upto_region 4 with fail
  go_wp2_with fail
  refine (hS.out _ _ hR).mono ?_
  rintro e w2 ⟨rfl, hR2, t2⟩
  have kR2 := kR1.trn t2 (by omega)
  have gs := g0.size
  have g2 : Grew w w2 := t2.grew g01 (by omega)
  go_wp2_with fail
  refine (hNi.out _ _ hR2).mono ?_
  rintro e w3 ⟨b, i, rfl, HR, g3⟩
  have kR3 := kR2.grew g3
  go_wp2_with (refine st_nc rfl (.tmp 8) (.tmp 31) rfl rfl c2 kR3 rfl (by rfl) (by rfl) ⟨_, _, _, rfl⟩ ?_; intro w4 kR4 o4)
  have g4 : Grew w w4 := o4.grew (g2.trans g3) LR.out
  rw [hme.out] at HR
  exact bodyPost_ret (v := .tuple #[ncV c2 (.slice b 6 i), .bool true]) (results_nb (p := 8) (q := 9) Try.results15 _ _ R kR4 rfl) rfl ⟨b, i, rfl, Lib.hid ((HR.out.only o4 kR3 (by decide)).buf HK.out), g4⟩
theorem store_c {c : Nat → Int} {m : List Int} (hm : MacOf c m) (hl : m.length ≤ 140737488355328) {a : Option Addr} {j : Nat} {off size x : Int} (h0 : 0 ≤ off) (hx : 0 ≤ x) {w : World} (hB : Buf w (.slice a m.length j) m) : Calls Try.prog 15 #[ncV c (.slice a m.length j), .int .u64 off, .int .i64 size, .int .u64 x] w fun e w' => ∃ b i, e = .returned (.tuple #[ncV (stS c m.length off size x) (.slice b m.length i), .bool (!badL c m.length off size)]) ∧ Hid (Buf w' (.slice b m.length i) m) ∧ Grew w w' := by
  unfold stS
  cases hb : badL c m.length off size
  · obtain ⟨h1, rfl, k, hk, rfl⟩ := badL_no h0 hb
    obtain ⟨hc, hi⟩ := chk_ok hm hB.ok h1
    have h6 := hi.1
    rw [h6] at hB ⊢
    have := Store_yes hc hi x hx hk hB
    rw [show (4 * (k : Int) / 4).toNat = k by omega]
    exact this
  · exact Store_no off size x h0 hl hb hB
def newC (m : List Int) : Nat → Int := fun i => if i = 4 then 1 else if i = 8 then 1 else if i = 13 then getV (cutL m 0 4) false else if i = 14 then getV (cutL m 4 6) false else 0
def zeroC : Nat → Int := fun _ => 0
theorem results_ne {fn : Func} {p q : Tmp} (h : fn.results = #[.cell p 25, .tmp q]) (tmps : Array Value) (w : World) (g : Nat) {c : Nat → Int} {u : Value} {T : TypeId} (k : Blk w g (ncA c u) T) (hp : tmps.getD p undef = .pointer (some ⟨g, 0, none⟩)) : (results fn tmps).run Try.prog w = .ok (.tuple #[ncV c u, tmps.getD q undef]) w := results_nb h tmps w g k hp
set_option maxHeartbeats 1000000 in
theorem New_no {m : List Int} {a : Option Addr} {j : Nat} {w : World} (h6 : m.length ≠ 6) : Calls Try.prog 17 #[.slice a m.length j] w fun e w' => e = .returned (.tuple #[ncV zeroC (.slice none 0 0), .int .i64 2]) ∧ Grew w w' := by
  have h6' : ((m.length : Int) != 6) = true := by simp; omega
  generalize m.length = n at *
  clear h6
  go_enter Try.func17, Try.ntmps17
  go_upto_region 1 with fail
  have kR : Blk (w.alloc (.cells zeroN 25)) w.heap.size zeroN 25 := Blk.new w zeroN 25 _ rfl
  have g0 : Grew w (w.alloc (.cells zeroN 25)) := (Grew.refl w).alloc (.cells zeroN 25)
  generalize (w.alloc (.cells zeroN 25)) = w0 at *
  have lR : w.heap.size ≤ w.heap.size := by omega
  generalize hZ : w.heap.size = R at *
  have HZ := Lib.hid hZ
  clear hZ
  have LR : Hid (w.heap.size ≤ R) := Lib.hid (by rw [HZ.out]; exact lR)
  go_wp2_with (refine st_nc rfl (.tmp 2) (.tmp 7) rfl rfl zeroC kR rfl (by rfl) (by rfl) ⟨_, _, _, rfl⟩ ?_; intro w3 kR3 o3)
  have g3 : Grew w w3 := o3.grew g0 LR.out
  exact bodyPost_ret (v := .tuple #[ncV zeroC (.slice none 0 0), .int .i64 2]) (results_nb (p := 2) (q := 3) Try.results17 _ _ R kR3 rfl) rfl ⟨rfl, g3⟩
set_option maxHeartbeats 1000000 in
theorem New_yes {m : List Int} {a : Option Addr} {j : Nat} {w : World} (h6 : m.length = 6) (hB : Buf w (.slice a m.length j) m) : Calls Try.prog 17 #[.slice a m.length j] w fun e w' => ∃ b i, e = .returned (.tuple #[ncV (newC m) (.slice b m.length i), .int .i64 0]) ∧ Hid (Buf w' (.slice b m.length i) m) ∧ Grew w w' := by
  have h6' : ((m.length : Int) != 6) = false := by simp; omega
  have HC := Lib.hid (fun (w : World) (h : Buf w (.slice a m.length j) m) => Clone_c (by omega) h)
  have HB := Lib.hid hB
  have HK := Lib.hid hB.ok
  generalize hn : m.length = n at *
  have HN := Lib.hid hn
  clear h6 hB hn
  go_enter Try.func17, Try.ntmps17
  go_upto_region 1 with fail
  have kR : Blk (w.alloc (.cells zeroN 25)) w.heap.size zeroN 25 := Blk.new w zeroN 25 _ rfl
  have g0 : Grew w (w.alloc (.cells zeroN 25)) := (Grew.refl w).alloc (.cells zeroN 25)
  generalize (w.alloc (.cells zeroN 25)) = w0 at *
  have lR : w.heap.size ≤ w.heap.size := by omega
  generalize hZ : w.heap.size = R at *
  have HZ := Lib.hid hZ
  clear hZ
  have LR : Hid (w.heap.size ≤ R) := Lib.hid (by rw [HZ.out]; exact lR)
  go_wp2_with fail
  refine (HC.out _ (HB.out.grew g0)).mono ?_
  rintro e w1 ⟨b, i, rfl, HR, g1⟩
  have kR1 := kR.grew g1
  go_wp2_with (refine st_nc rfl (.tmp 2) (.tmp 10) rfl rfl (newC m) kR1 rfl (by rfl) (by rfl) ⟨_, _, _, rfl⟩ ?_; intro w3 kR3 o3)
  have g3 : Grew w w3 := o3.grew (g0.trans g1) LR.out
  exact bodyPost_ret (v := .tuple #[ncV (newC m) (.slice b n i), .int .i64 0]) (results_nb (p := 2) (q := 3) Try.results17 _ _ R kR3 rfl) rfl ⟨b, i, rfl, Lib.hid ((HR.out.only o3 kR1 (by decide)).buf HK.out), g3⟩
end Go.Proofs.Ytoehdhhodidehaa
