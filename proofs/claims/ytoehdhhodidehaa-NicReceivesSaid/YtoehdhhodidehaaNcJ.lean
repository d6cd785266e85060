/-
  Package nic: what the registers send (send).
-/
import Derived.Test.YtoehdhhodidehaaRows
import Derived.Test.YtoehdhhodidehaaNcI
import Derived.WalkKit
import Derived.Outline
import Derived.Handy
import Derived.StillTailTactics
import Derived.Deep.QuietTactic
import Derived.BigQuiet
import Derived.Deep.DeepCutAuto
import Derived.Deep.RegionHeld3
import Derived.Great.BuildSlice
import Derived.Deep.WholeRow
import Derived.Lib.SliceRun
set_option maxRecDepth 4000
set_option linter.unusedVariables false
set_option linter.unusedSimpArgs false
namespace Go.Proofs.Ytoehdhhodidehaa
open Go.RowKit

/-- The numbers of a controller that may be. -/
structure ROk (c : Nat → Int) : Prop where
  r0 : 0 ≤ c 0 ∧ c 0 < 8
  r1 : 0 ≤ c 1 ∧ c 1 < 16
  r2 : 0 ≤ c 2 ∧ c 2 < 16
  r3 : 0 ≤ c 3 ∧ c 3 < 4294967296
  r4 : 1 ≤ c 4 ∧ c 4 ≤ 64
  r5 : 0 ≤ c 5 ∧ c 5 < c 4
  r6 : 0 ≤ c 6 ∧ c 6 < c 4
  r7 : 0 ≤ c 7 ∧ c 7 < 4294967296
  r8 : 1 ≤ c 8 ∧ c 8 ≤ 64
  r9 : 0 ≤ c 9 ∧ c 9 < c 8
  r10 : 0 ≤ c 10 ∧ c 10 < c 8
  r11 : 0 ≤ c 11 ∧ c 11 ≤ 2147483648
  r12 : 0 ≤ c 12 ∧ c 12 ≤ 2147483648
  r13 : 0 ≤ c 13 ∧ c 13 < 4294967296
  r14 : 0 ≤ c 14 ∧ c 14 < 4294967296
theorem ROk.rg {c : Nat → Int} (h : ROk c) : rgOk c := fun i hi => by
  have h4 := h.r4
  have h8 := h.r8
  match i, hi with
  | 0, _ => exact (by have h' := h.r0; omega)
  | 1, _ => exact (by have h' := h.r1; omega)
  | 2, _ => exact (by have h' := h.r2; omega)
  | 3, _ => exact (by have h' := h.r3; omega)
  | 4, _ => exact (by have h' := h.r4; omega)
  | 5, _ => exact (by have h' := h.r5; omega)
  | 6, _ => exact (by have h' := h.r6; omega)
  | 7, _ => exact (by have h' := h.r7; omega)
  | 8, _ => exact (by have h' := h.r8; omega)
  | 9, _ => exact (by have h' := h.r9; omega)
  | 10, _ => exact (by have h' := h.r10; omega)
  | 11, _ => exact (by have h' := h.r11; omega)
  | 12, _ => exact (by have h' := h.r12; omega)
  | 13, _ => exact (by have h' := h.r13; omega)
  | 14, _ => exact (by have h' := h.r14; omega)
def atT (c : Nat → Int) : Int := c 3 + 16 * c 5
def atR (c : Nat → Int) : Int := c 7 + 16 * c 9
def adrV (ds : List Int) : Int := getV (cutL ds 0 8) false
def lenV (ds : List Int) : Int := getV (cutL ds 8 10) false
def ownB (ds : List Int) : Bool := bitB 1 (getV (cutL ds 10 12) false)
/-- What a call leaves: the registers, memory, the frame, and whether it was done. -/
structure SR where
  c : Nat → Int
  xs : List Int
  f : List Int
  b : Bool
def sendR (c : Nat → Int) (xs : List Int) : SR :=
  if waitst c then
    if insideV xs.length (atT c) 16 then
      if ownB (bytesV xs (atT c) 16) then
        if insideV xs.length (adrV (bytesV xs (atT c) 16)) (lenV (bytesV xs (atT c) 16)) && frameB (lenV (bytesV xs (atT c) 16)) then
          ⟨headt (upd c 1 (orB 1 (c 1))), writeV xs (atT c + 10) 4 (bothV (bytesV xs (atT c) 16) 1), bytesV xs (adrV (bytesV xs (atT c) 16)) (lenV (bytesV xs (atT c) 16)), true⟩
        else ⟨headt (failC c), writeV xs (atT c + 10) 4 (bothV (bytesV xs (atT c) 16) 2), [], true⟩
      else ⟨c, xs, [], false⟩
    else ⟨broket c, xs, [], true⟩
  else ⟨c, xs, [], false⟩
theorem parts_lt {ds : List Int} (h : AreBytes ds) (h16 : ds.length = 16) : (0 ≤ adrV ds ∧ adrV ds < 18446744073709551616) ∧ (0 ≤ lenV ds ∧ lenV ds < 65536) ∧ (0 ≤ getV (cutL ds 10 12) false ∧ getV (cutL ds 10 12) false < 65536) := by
  have h1 := getV_ltn (h.cut 0 8) 8 (by rw [cutL_length (by decide) (by omega)]; decide)
  have h2 := getV_ltn (h.cut 8 10) 2 (by rw [cutL_length (by decide) (by omega)]; decide)
  have h3 := getV_ltn (h.cut 10 12) 2 (by rw [cutL_length (by decide) (by omega)]; decide)
  have e2 : getV (cutL ds 8 10) false < 65536 := h2.2.1
  have e3 : getV (cutL ds 10 12) false < 65536 := h3.2.1
  exact ⟨⟨h1.1, h1.2.2⟩, ⟨h2.1, e2⟩, ⟨h3.1, e3⟩⟩
theorem or_shl (f s : Int) (h0 : 0 ≤ f) (h1 : f < 65536) (h2 : 0 ≤ s) (h3 : s < 256) : bits .or .u64 f (s * 65536) = f + s * 65536 := or_add f s 16 h0 (by rw [show (2 : Int) ^ 16 = 65536 by decide]; exact h1) h2 (by rw [show (2 : Int) ^ 16 = 65536 by decide]; omega)
theorem andNot_1 {x : Int} (h0 : 0 ≤ x) (h1 : x < 18446744073709551616) : bits .andNot .u64 x 1 = x - x % 2 := by
  obtain ⟨n, rfl⟩ := Int.eq_ofNat_of_zero_le h0
  have e : bits .andNot .u64 (n : Int) 1 = ((n - n % 2 : Nat) : Int) := by
    rw [show (1 : Int) = ((1 : Nat) : Int) from rfl, u64_andNot_nat n 1 (by omega) (by decide)]
    congr 1
    apply Nat.eq_of_testBit_eq
    intro i
    rw [Nat.testBit_and]
    cases i with
    | zero =>
      rw [Nat.testBit_zero, Nat.testBit_zero, Nat.testBit_zero]
      rw [show (18446744073709551615 - 1) % 2 = 0 by decide, show (n - n % 2) % 2 = 0 by omega]
      simp
    | succ i =>
      rw [Nat.testBit_succ, Nat.testBit_succ, Nat.testBit_succ, show (18446744073709551615 - 1) / 2 = 2 ^ 63 - 1 by decide, show (n - n % 2) / 2 = n / 2 by omega, Nat.testBit_two_pow_sub_one]
      by_cases hi : i < 63
      · simp [hi]
      · rw [Nat.testBit_lt_two_pow (x := n / 2) (i := i) (Nat.lt_of_lt_of_le (show n / 2 < 2 ^ 63 by omega) (Nat.pow_le_pow_right (by decide) (by omega)))]
        simp
  rw [e]; omega
theorem bothV_eq {ds : List Int} (h : AreBytes ds) (h16 : ds.length = 16) (st : Int) (h0 : 0 ≤ st) (h1 : st < 256) : bothV ds st = getV (cutL ds 10 12) false - getV (cutL ds 10 12) false % 2 + st * 65536 := by
  have hf := (parts_lt h h16).2.2
  unfold bothV
  rw [andNot_1 hf.1 (by omega), or_shl _ _ (by omega) (by omega) h0 h1]
theorem bothV_lt {ds : List Int} (h : AreBytes ds) (h16 : ds.length = 16) (st : Int) (h0 : 0 ≤ st) (h1 : st < 256) : 0 ≤ bothV ds st ∧ bothV ds st < 18446744073709551616 := by
  have hf := (parts_lt h h16).2.2
  rw [bothV_eq h h16 st h0 h1]
  omega
theorem ROk.c1 {c : Nat → Int} (h : ROk c) {v : Int} (hv : 0 ≤ v ∧ v < 16) : ROk (upd c 1 v) := ⟨h.r0, hv, h.r2, h.r3, h.r4, h.r5, h.r6, h.r7, h.r8, h.r9, h.r10, h.r11, h.r12, h.r13, h.r14⟩
theorem ROk.c0 {c : Nat → Int} (h : ROk c) {v : Int} (hv : 0 ≤ v ∧ v < 8) : ROk (upd c 0 v) := ⟨hv, h.r1, h.r2, h.r3, h.r4, h.r5, h.r6, h.r7, h.r8, h.r9, h.r10, h.r11, h.r12, h.r13, h.r14⟩
theorem ROk.c11 {c : Nat → Int} (h : ROk c) : ROk (cntC 11 c) := ⟨h.r0, h.r1, h.r2, h.r3, h.r4, h.r5, h.r6, h.r7, h.r8, h.r9, h.r10, (by have := h.r11; show 0 ≤ min (c 11 + 1) 2147483648 ∧ min (c 11 + 1) 2147483648 ≤ 2147483648; omega), h.r12, h.r13, h.r14⟩
theorem ROk.c12 {c : Nat → Int} (h : ROk c) : ROk (cntC 12 c) := ⟨h.r0, h.r1, h.r2, h.r3, h.r4, h.r5, h.r6, h.r7, h.r8, h.r9, h.r10, h.r11, (by have := h.r12; show 0 ≤ min (c 12 + 1) 2147483648 ∧ min (c 12 + 1) 2147483648 ≤ 2147483648; omega), h.r13, h.r14⟩
theorem ROk.fail {c : Nat → Int} (h : ROk c) : ROk (failC c) := h.c12.c1 (orB_lt (by decide) h.r1.1 h.r1.2)
theorem ROk.drop {c : Nat → Int} (h : ROk c) : ROk (dropC c) := h.c11.c1 (orB_lt (by decide) h.r1.1 h.r1.2)
theorem ROk.cause {c : Nat → Int} (h : ROk c) {k : Int} (hk : k = 1 ∨ k = 2 ∨ k = 4 ∨ k = 8) : ROk (upd c 1 (orB k (c 1))) := h.c1 (orB_lt hk h.r1.1 h.r1.2)
theorem ROk.headt {c : Nat → Int} (h : ROk c) : ROk (headt c) := ⟨h.r0, h.r1, h.r2, h.r3, h.r4, (by have := h.r4; show 0 ≤ (c 5 + 1) % c 4 ∧ (c 5 + 1) % c 4 < c 4; exact ⟨Int.emod_nonneg _ (by omega), Int.emod_lt_of_pos _ (by omega)⟩), h.r6, h.r7, h.r8, h.r9, h.r10, h.r11, h.r12, h.r13, h.r14⟩
theorem ROk.headr {c : Nat → Int} (h : ROk c) : ROk (headr c) := ⟨h.r0, h.r1, h.r2, h.r3, h.r4, h.r5, h.r6, h.r7, h.r8, (by have := h.r8; show 0 ≤ (c 9 + 1) % c 8 ∧ (c 9 + 1) % c 8 < c 8; exact ⟨Int.emod_nonneg _ (by omega), Int.emod_lt_of_pos _ (by omega)⟩), h.r10, h.r11, h.r12, h.r13, h.r14⟩
theorem bit_sub {x k : Int} (hk : k = 1 ∨ k = 2) (h0 : 0 ≤ x) (h1 : x < 8) (hb : bitB k x = true) : 0 ≤ x - k ∧ x - k < 8 := by
  unfold bitB at hb
  simp at hb
  rcases hk with rfl | rfl <;> omega
theorem ROk.broket {c : Nat → Int} (h : ROk c) (hb : bitB 1 (c 0) = true) : ROk (broket c) := (h.c0 (bit_sub (.inl rfl) h.r0.1 h.r0.2 hb)).fail
theorem ROk.broker {c : Nat → Int} (h : ROk c) (hb : bitB 2 (c 0) = true) : ROk (broker c) := (h.c0 (bit_sub (.inr rfl) h.r0.1 h.r0.2 hb)).fail
theorem bytesV_len {xs : List Int} {x n : Int} (h : insideV xs.length x n = true) : ((bytesV xs x n).length : Int) = n := by
  obtain ⟨lo, k, rfl, rfl, hlo⟩ := insideV_no h
  rw [bytesV_in hlo, cutL_length (by omega) hlo]
  omega
theorem al_ri {ops : Array Oper} {rest : List Oper} {o : Oper} {a : Act} {w : World} {Q : Exit → Act → World → Prop} (hgd : o.guard = none) (ho : o.op = .alloc 82)
    (h : ∀ w', Blk w' w.heap.size #[.int .i64 0, .int .i64 0, .int .i64 0, .int .i64 0, .int .u32 0] 82 → Grew w w' → wpList Try.prog ops Q rest (a.put o.dst (.pointer (some ⟨w.heap.size, 0, none⟩))) w') : wpList Try.prog ops Q (o :: rest) a w := by
  have hk := h _ (Blk.new w #[.int .i64 0, .int .i64 0, .int .i64 0, .int .i64 0, .int .u32 0] 82 _ rfl) ((Grew.refl w).alloc _)
  refine wpList_plain hgd fun K hK => ?_
  unfold Oper.wp execOp
  simp only [ho]
  go_simp
  exact hK _ _ hk
theorem al_ds {ops : Array Oper} {rest : List Oper} {o : Oper} {a : Act} {w : World} {Q : Exit → Act → World → Prop} (hgd : o.guard = none) (ho : o.op = .alloc 86)
    (h : ∀ w', Blk w' w.heap.size (dsA zeroD) 86 → Grew w w' → wpList Try.prog ops Q rest (a.put o.dst (.pointer (some ⟨w.heap.size, 0, none⟩))) w') : wpList Try.prog ops Q (o :: rest) a w := by
  have hk := h _ (Blk.new w (dsA zeroD) 86 _ rfl) ((Grew.refl w).alloc _)
  refine wpList_plain hgd fun K hK => ?_
  unfold Oper.wp execOp
  simp only [ho]
  go_simp
  exact hK _ _ hk
theorem al_rm {ops : Array Oper} {rest : List Oper} {o : Oper} {a : Act} {w : World} {Q : Exit → Act → World → Prop} (hgd : o.guard = none) (ho : o.op = .alloc 27)
    (h : ∀ w', Blk w' w.heap.size #[.slice none 0 0] 27 → Grew w w' → wpList Try.prog ops Q rest (a.put o.dst (.pointer (some ⟨w.heap.size, 0, none⟩))) w') : wpList Try.prog ops Q (o :: rest) a w := by
  have hk := h _ (Blk.new w #[.slice none 0 0] 27 _ rfl) ((Grew.refl w).alloc _)
  refine wpList_plain hgd fun K hK => ?_
  unfold Oper.wp execOp
  simp only [ho]
  go_simp
  exact hK _ _ hk
end Go.Proofs.Ytoehdhhodidehaa
