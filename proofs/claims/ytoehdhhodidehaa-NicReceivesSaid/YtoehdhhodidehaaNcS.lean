/-
  Package nic: what a store makes of the registers (store).
-/
import Derived.Test.YtoehdhhodidehaaRows
import Derived.Test.YtoehdhhodidehaaNcJ
import Derived.WalkKit
import Derived.Outline
import Derived.Handy
import Derived.StillTailTactics
import Derived.Deep.QuietTactic
import Derived.BigQuiet
import Derived.Deep.DeepCutAuto
import Derived.Deep.RegionHeld3
import Derived.Great.BuildSlice
import Derived.Deep.WholeRow
import Derived.Lib.SliceRun
import Derived.BigFrame
set_option maxRecDepth 4000
set_option linter.unusedVariables false
set_option linter.unusedSimpArgs false
namespace Go.Proofs.Ytoehdhhodidehaa
open Go.RowKit

/-- What a store of y at register k makes. -/
def clrV (x y : Int) : Int := bits .andNot .u32 x y
def stC (k : Nat) (y : Int) (c : Nat → Int) : Nat → Int :=
  if k = 0 then upd c 0 (y % 8) else if k = 1 then upd c 1 (clrV (c 1) y) else if k = 2 then upd c 2 (y % 16) else if k = 3 then upd c 3 y else if k = 7 then upd c 7 y
  else if k = 4 then begint y c else if k = 8 then beginr y c else if k = 6 then reacht y c else if k = 10 then reachr y c else c
set_option maxHeartbeats 1000000 in
theorem store_0 {c : Nat → Int} {p : Nat} {w : World} (hB : Blk w p (rgA c) 80) {y : Int} (h0 : 0 ≤ y) (h1 : y < 4294967296) : Calls Try.prog 42 #[.pointer (some ⟨p, 0, none⟩), .int .i64 0, .int .u32 y] w fun e w' => e = .returned (.tuple #[]) ∧ Blk w' p (rgA (stC 0 y c)) 80 ∧ Trn p w w' := by
  have c0 := hB.rgC 0 (by decide)
  have f0 := hB.free 0
  have HB := Lib.hid hB
  have q1 : y.tmod 8 = y % 8 := Int.tmod_eq_emod_of_nonneg h0
  have q2 : y.tmod 16 = y % 16 := Int.tmod_eq_emod_of_nonneg h0
  have q3 : IntKind.u32.wrap (y % 8) = y % 8 := u32_in (by omega)
  have q4 : IntKind.u32.wrap (y % 16) = y % 16 := u32_in (by omega)
  clear hB
  go_enter Try.func42, Try.ntmps42
  go_wp2_with fail
  go_end0
  exact ⟨rfl, HB.out.rg (by decide) _, Trn.set _ _ _ _⟩
set_option maxHeartbeats 1000000 in
theorem store_1 {c : Nat → Int} {p : Nat} {w : World} (hB : Blk w p (rgA c) 80) {y : Int} (h0 : 0 ≤ y) (h1 : y < 4294967296) : Calls Try.prog 42 #[.pointer (some ⟨p, 0, none⟩), .int .i64 1, .int .u32 y] w fun e w' => e = .returned (.tuple #[]) ∧ Blk w' p (rgA (stC 1 y c)) 80 ∧ Trn p w w' := by
  have z0 := fun z : Over w => hB.rgO 1 (by decide) z
  have HB := Lib.hid hB
  clear hB
  go_enter Try.func42, Try.ntmps42
  go_upto_region 4 with fail
  refine region_over_tail 8 (by kernel_rfl) (by kernel_rfl) ?_
  simp only [List.take_succ_cons, List.take_zero, List.drop_succ_cons, List.drop_zero]
  repeat (first | go_big_quiet_step (fail) | quiet_step (fail))
  refine wpQuiet_nil ?_
  intro z
  have hB := HB.out.over z
  have c0 := hB.rgC 1 (by decide)
  have f0 := hB.free 1
  have HB1 := Lib.hid hB
  have tz : Trn p w z.w := Trn.of_grew z.g
  clear hB z0
  generalize z.w = w1 at *
  go_wp2_with fail
  go_end0
  exact ⟨rfl, HB1.out.rg (by decide) _, tz.trans (Trn.set _ _ _ _)⟩
set_option maxHeartbeats 1000000 in
theorem store_2 {c : Nat → Int} {p : Nat} {w : World} (hB : Blk w p (rgA c) 80) {y : Int} (h0 : 0 ≤ y) (h1 : y < 4294967296) : Calls Try.prog 42 #[.pointer (some ⟨p, 0, none⟩), .int .i64 2, .int .u32 y] w fun e w' => e = .returned (.tuple #[]) ∧ Blk w' p (rgA (stC 2 y c)) 80 ∧ Trn p w w' := by
  have c0 := hB.rgC 2 (by decide)
  have f0 := hB.free 2
  have HB := Lib.hid hB
  have q1 : y.tmod 8 = y % 8 := Int.tmod_eq_emod_of_nonneg h0
  have q2 : y.tmod 16 = y % 16 := Int.tmod_eq_emod_of_nonneg h0
  have q3 : IntKind.u32.wrap (y % 8) = y % 8 := u32_in (by omega)
  have q4 : IntKind.u32.wrap (y % 16) = y % 16 := u32_in (by omega)
  clear hB
  go_enter Try.func42, Try.ntmps42
  go_wp2_with fail
  go_end0
  exact ⟨rfl, HB.out.rg (by decide) _, Trn.set _ _ _ _⟩
set_option maxHeartbeats 1000000 in
theorem store_3 {c : Nat → Int} {p : Nat} {w : World} (hB : Blk w p (rgA c) 80) {y : Int} (h0 : 0 ≤ y) (h1 : y < 4294967296) : Calls Try.prog 42 #[.pointer (some ⟨p, 0, none⟩), .int .i64 3, .int .u32 y] w fun e w' => e = .returned (.tuple #[]) ∧ Blk w' p (rgA (stC 3 y c)) 80 ∧ Trn p w w' := by
  have c0 := hB.rgC 3 (by decide)
  have f0 := hB.free 3
  have HB := Lib.hid hB
  have q1 : y.tmod 8 = y % 8 := Int.tmod_eq_emod_of_nonneg h0
  have q2 : y.tmod 16 = y % 16 := Int.tmod_eq_emod_of_nonneg h0
  have q3 : IntKind.u32.wrap (y % 8) = y % 8 := u32_in (by omega)
  have q4 : IntKind.u32.wrap (y % 16) = y % 16 := u32_in (by omega)
  clear hB
  go_enter Try.func42, Try.ntmps42
  go_wp2_with fail
  go_end0
  exact ⟨rfl, HB.out.rg (by decide) _, Trn.set _ _ _ _⟩
set_option maxHeartbeats 1000000 in
theorem store_4 {c : Nat → Int} {p : Nat} {w : World} (hB : Blk w p (rgA c) 80) {y : Int} (h0 : 0 ≤ y) (h1 : y < 4294967296) : Calls Try.prog 42 #[.pointer (some ⟨p, 0, none⟩), .int .i64 4, .int .u32 y] w fun e w' => e = .returned (.tuple #[]) ∧ Blk w' p (rgA (stC 4 y c)) 80 ∧ Trn p w w' := by
  have hG := Lib.hid (fun (w : World) (h : Blk w p (rgA c) 80) => begin_t h y h0 h1)
  show Calls _ _ _ _ fun e w' => _ ∧ Blk w' p (rgA (begint y c)) 80 ∧ _
  clear h0 h1
  go_enter Try.func42, Try.ntmps42
  go_wp2_with fail
  refine (sending_c _).mono ?_
  rintro e w1 ⟨rfl, g1⟩
  have hB1 := hB.grew g1
  go_wp2_with fail
  refine (hG.out _ hB1).mono ?_
  rintro e w2 ⟨rfl, hB2, t2⟩
  go_wp2_with fail
  go_end0
  exact ⟨rfl, hB2, (Trn.of_grew g1).trans t2⟩
set_option maxHeartbeats 1000000 in
theorem store_5 {c : Nat → Int} {p : Nat} {w : World} (hB : Blk w p (rgA c) 80) {y : Int} (h0 : 0 ≤ y) (h1 : y < 4294967296) : Calls Try.prog 42 #[.pointer (some ⟨p, 0, none⟩), .int .i64 5, .int .u32 y] w fun e w' => e = .returned (.tuple #[]) ∧ Blk w' p (rgA (stC 5 y c)) 80 ∧ Trn p w w' := by
  have HB := Lib.hid hB
  clear hB
  go_enter Try.func42, Try.ntmps42
  go_wp2_with fail
  go_end0
  exact ⟨rfl, HB.out, Trn.refl _ _⟩
set_option maxHeartbeats 1000000 in
theorem store_6 {c : Nat → Int} {p : Nat} {w : World} (hB : Blk w p (rgA c) 80) {y : Int} (h0 : 0 ≤ y) (h1 : y < 4294967296) : Calls Try.prog 42 #[.pointer (some ⟨p, 0, none⟩), .int .i64 6, .int .u32 y] w fun e w' => e = .returned (.tuple #[]) ∧ Blk w' p (rgA (stC 6 y c)) 80 ∧ Trn p w w' := by
  have hG := Lib.hid (fun (w : World) (h : Blk w p (rgA c) 80) => reach_t h y)
  show Calls _ _ _ _ fun e w' => _ ∧ Blk w' p (rgA (reacht y c)) 80 ∧ _
  clear h0 h1
  go_enter Try.func42, Try.ntmps42
  go_wp2_with fail
  refine (sending_c _).mono ?_
  rintro e w1 ⟨rfl, g1⟩
  have hB1 := hB.grew g1
  go_wp2_with fail
  refine (hG.out _ hB1).mono ?_
  rintro e w2 ⟨rfl, hB2, t2⟩
  go_wp2_with fail
  go_end0
  exact ⟨rfl, hB2, (Trn.of_grew g1).trans t2⟩
set_option maxHeartbeats 1000000 in
theorem store_7 {c : Nat → Int} {p : Nat} {w : World} (hB : Blk w p (rgA c) 80) {y : Int} (h0 : 0 ≤ y) (h1 : y < 4294967296) : Calls Try.prog 42 #[.pointer (some ⟨p, 0, none⟩), .int .i64 7, .int .u32 y] w fun e w' => e = .returned (.tuple #[]) ∧ Blk w' p (rgA (stC 7 y c)) 80 ∧ Trn p w w' := by
  have c0 := hB.rgC 7 (by decide)
  have f0 := hB.free 7
  have HB := Lib.hid hB
  have q1 : y.tmod 8 = y % 8 := Int.tmod_eq_emod_of_nonneg h0
  have q2 : y.tmod 16 = y % 16 := Int.tmod_eq_emod_of_nonneg h0
  have q3 : IntKind.u32.wrap (y % 8) = y % 8 := u32_in (by omega)
  have q4 : IntKind.u32.wrap (y % 16) = y % 16 := u32_in (by omega)
  clear hB
  go_enter Try.func42, Try.ntmps42
  go_wp2_with fail
  go_end0
  exact ⟨rfl, HB.out.rg (by decide) _, Trn.set _ _ _ _⟩
set_option maxHeartbeats 1000000 in
theorem store_8 {c : Nat → Int} {p : Nat} {w : World} (hB : Blk w p (rgA c) 80) {y : Int} (h0 : 0 ≤ y) (h1 : y < 4294967296) : Calls Try.prog 42 #[.pointer (some ⟨p, 0, none⟩), .int .i64 8, .int .u32 y] w fun e w' => e = .returned (.tuple #[]) ∧ Blk w' p (rgA (stC 8 y c)) 80 ∧ Trn p w w' := by
  have hG := Lib.hid (fun (w : World) (h : Blk w p (rgA c) 80) => begin_r h y h0 h1)
  show Calls _ _ _ _ fun e w' => _ ∧ Blk w' p (rgA (beginr y c)) 80 ∧ _
  clear h0 h1
  go_enter Try.func42, Try.ntmps42
  go_wp2_with fail
  refine (receiving_c _).mono ?_
  rintro e w1 ⟨rfl, g1⟩
  have hB1 := hB.grew g1
  go_wp2_with fail
  refine (hG.out _ hB1).mono ?_
  rintro e w2 ⟨rfl, hB2, t2⟩
  go_wp2_with fail
  go_end0
  exact ⟨rfl, hB2, (Trn.of_grew g1).trans t2⟩
set_option maxHeartbeats 1000000 in
theorem store_9 {c : Nat → Int} {p : Nat} {w : World} (hB : Blk w p (rgA c) 80) {y : Int} (h0 : 0 ≤ y) (h1 : y < 4294967296) : Calls Try.prog 42 #[.pointer (some ⟨p, 0, none⟩), .int .i64 9, .int .u32 y] w fun e w' => e = .returned (.tuple #[]) ∧ Blk w' p (rgA (stC 9 y c)) 80 ∧ Trn p w w' := by
  have HB := Lib.hid hB
  clear hB
  go_enter Try.func42, Try.ntmps42
  go_wp2_with fail
  go_end0
  exact ⟨rfl, HB.out, Trn.refl _ _⟩
set_option maxHeartbeats 1000000 in
theorem store_10 {c : Nat → Int} {p : Nat} {w : World} (hB : Blk w p (rgA c) 80) {y : Int} (h0 : 0 ≤ y) (h1 : y < 4294967296) : Calls Try.prog 42 #[.pointer (some ⟨p, 0, none⟩), .int .i64 10, .int .u32 y] w fun e w' => e = .returned (.tuple #[]) ∧ Blk w' p (rgA (stC 10 y c)) 80 ∧ Trn p w w' := by
  have hG := Lib.hid (fun (w : World) (h : Blk w p (rgA c) 80) => reach_r h y)
  show Calls _ _ _ _ fun e w' => _ ∧ Blk w' p (rgA (reachr y c)) 80 ∧ _
  clear h0 h1
  go_enter Try.func42, Try.ntmps42
  go_wp2_with fail
  refine (receiving_c _).mono ?_
  rintro e w1 ⟨rfl, g1⟩
  have hB1 := hB.grew g1
  go_wp2_with fail
  refine (hG.out _ hB1).mono ?_
  rintro e w2 ⟨rfl, hB2, t2⟩
  go_wp2_with fail
  go_end0
  exact ⟨rfl, hB2, (Trn.of_grew g1).trans t2⟩
set_option maxHeartbeats 1000000 in
theorem store_11 {c : Nat → Int} {p : Nat} {w : World} (hB : Blk w p (rgA c) 80) {y : Int} (h0 : 0 ≤ y) (h1 : y < 4294967296) : Calls Try.prog 42 #[.pointer (some ⟨p, 0, none⟩), .int .i64 11, .int .u32 y] w fun e w' => e = .returned (.tuple #[]) ∧ Blk w' p (rgA (stC 11 y c)) 80 ∧ Trn p w w' := by
  have HB := Lib.hid hB
  clear hB
  go_enter Try.func42, Try.ntmps42
  go_wp2_with fail
  go_end0
  exact ⟨rfl, HB.out, Trn.refl _ _⟩
set_option maxHeartbeats 1000000 in
theorem store_12 {c : Nat → Int} {p : Nat} {w : World} (hB : Blk w p (rgA c) 80) {y : Int} (h0 : 0 ≤ y) (h1 : y < 4294967296) : Calls Try.prog 42 #[.pointer (some ⟨p, 0, none⟩), .int .i64 12, .int .u32 y] w fun e w' => e = .returned (.tuple #[]) ∧ Blk w' p (rgA (stC 12 y c)) 80 ∧ Trn p w w' := by
  have HB := Lib.hid hB
  clear hB
  go_enter Try.func42, Try.ntmps42
  go_wp2_with fail
  go_end0
  exact ⟨rfl, HB.out, Trn.refl _ _⟩
set_option maxHeartbeats 1000000 in
theorem store_13 {c : Nat → Int} {p : Nat} {w : World} (hB : Blk w p (rgA c) 80) {y : Int} (h0 : 0 ≤ y) (h1 : y < 4294967296) : Calls Try.prog 42 #[.pointer (some ⟨p, 0, none⟩), .int .i64 13, .int .u32 y] w fun e w' => e = .returned (.tuple #[]) ∧ Blk w' p (rgA (stC 13 y c)) 80 ∧ Trn p w w' := by
  have HB := Lib.hid hB
  clear hB
  go_enter Try.func42, Try.ntmps42
  go_wp2_with fail
  go_end0
  exact ⟨rfl, HB.out, Trn.refl _ _⟩
set_option maxHeartbeats 1000000 in
theorem store_14 {c : Nat → Int} {p : Nat} {w : World} (hB : Blk w p (rgA c) 80) {y : Int} (h0 : 0 ≤ y) (h1 : y < 4294967296) : Calls Try.prog 42 #[.pointer (some ⟨p, 0, none⟩), .int .i64 14, .int .u32 y] w fun e w' => e = .returned (.tuple #[]) ∧ Blk w' p (rgA (stC 14 y c)) 80 ∧ Trn p w w' := by
  have HB := Lib.hid hB
  clear hB
  go_enter Try.func42, Try.ntmps42
  go_wp2_with fail
  go_end0
  exact ⟨rfl, HB.out, Trn.refl _ _⟩
theorem store_k {c : Nat → Int} {p : Nat} {w : World} (hB : Blk w p (rgA c) 80) {y : Int} (h0 : 0 ≤ y) (h1 : y < 4294967296) {k : Nat} (hk : k < 15) : Calls Try.prog 42 #[.pointer (some ⟨p, 0, none⟩), .int .i64 k, .int .u32 y] w fun e w' => e = .returned (.tuple #[]) ∧ Blk w' p (rgA (stC k y c)) 80 ∧ Trn p w w' := by
  match k, hk with
  | 0, _ => exact store_0 hB h0 h1
  | 1, _ => exact store_1 hB h0 h1
  | 2, _ => exact store_2 hB h0 h1
  | 3, _ => exact store_3 hB h0 h1
  | 4, _ => exact store_4 hB h0 h1
  | 5, _ => exact store_5 hB h0 h1
  | 6, _ => exact store_6 hB h0 h1
  | 7, _ => exact store_7 hB h0 h1
  | 8, _ => exact store_8 hB h0 h1
  | 9, _ => exact store_9 hB h0 h1
  | 10, _ => exact store_10 hB h0 h1
  | 11, _ => exact store_11 hB h0 h1
  | 12, _ => exact store_12 hB h0 h1
  | 13, _ => exact store_13 hB h0 h1
  | 14, _ => exact store_14 hB h0 h1
theorem clrV_lt {x y : Int} (h0 : 0 ≤ x) (h1 : x < 16) (h2 : 0 ≤ y) (h3 : y < 4294967296) : 0 ≤ clrV x y ∧ clrV x y < 16 := by
  obtain ⟨a, rfl⟩ := Int.eq_ofNat_of_zero_le h0
  obtain ⟨b, rfl⟩ := Int.eq_ofNat_of_zero_le h2
  unfold clrV
  rw [u32_andNot_nat a b (by omega) (by omega)]
  have : a &&& (4294967295 - b) ≤ a := Nat.and_le_left
  omega
theorem ROk.st {c : Nat → Int} (h : ROk c) {y : Int} (h0 : 0 ≤ y) (h1 : y < 4294967296) (k : Nat) : ROk (stC k y c) := by
  unfold stC
  split
  · exact h.c0 (by omega)
  split
  · exact h.c1 (clrV_lt h.r1.1 h.r1.2 h0 h1)
  split
  · exact ⟨h.r0, h.r1, (by show 0 ≤ y % 16 ∧ y % 16 < 16; omega), h.r3, h.r4, h.r5, h.r6, h.r7, h.r8, h.r9, h.r10, h.r11, h.r12, h.r13, h.r14⟩
  split
  · exact ⟨h.r0, h.r1, h.r2, ⟨h0, h1⟩, h.r4, h.r5, h.r6, h.r7, h.r8, h.r9, h.r10, h.r11, h.r12, h.r13, h.r14⟩
  split
  · exact ⟨h.r0, h.r1, h.r2, h.r3, h.r4, h.r5, h.r6, ⟨h0, h1⟩, h.r8, h.r9, h.r10, h.r11, h.r12, h.r13, h.r14⟩
  split
  · unfold begint
    split
    · rename_i hy
      have hy' : 1 ≤ y ∧ y ≤ 64 := by unfold lenB at hy; simpa using hy
      exact ⟨h.r0, h.r1, h.r2, h.r3, hy', (by show (0 : Int) ≤ 0 ∧ 0 < y; omega), (by show (0 : Int) ≤ 0 ∧ 0 < y; omega), h.r7, h.r8, h.r9, h.r10, h.r11, h.r12, h.r13, h.r14⟩
    · exact h
  split
  · unfold beginr
    split
    · rename_i hy
      have hy' : 1 ≤ y ∧ y ≤ 64 := by unfold lenB at hy; simpa using hy
      exact ⟨h.r0, h.r1, h.r2, h.r3, h.r4, h.r5, h.r6, h.r7, hy', (by show (0 : Int) ≤ 0 ∧ 0 < y; omega), (by show (0 : Int) ≤ 0 ∧ 0 < y; omega), h.r11, h.r12, h.r13, h.r14⟩
    · exact h
  split
  · unfold reacht
    split
    · rename_i hy
      exact ⟨h.r0, h.r1, h.r2, h.r3, h.r4, h.r5, ⟨h0, hy⟩, h.r7, h.r8, h.r9, h.r10, h.r11, h.r12, h.r13, h.r14⟩
    · exact h
  split
  · unfold reachr
    split
    · rename_i hy
      exact ⟨h.r0, h.r1, h.r2, h.r3, h.r4, h.r5, h.r6, h.r7, h.r8, h.r9, ⟨h0, hy⟩, h.r11, h.r12, h.r13, h.r14⟩
    · exact h
  · exact h
end Go.Proofs.Ytoehdhhodidehaa
