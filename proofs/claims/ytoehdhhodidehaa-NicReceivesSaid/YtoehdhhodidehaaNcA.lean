/-
  Package nic: registers (rgA) and controllers (ncA) as numbers; what turns of them; contracts of small functions.
-/
import Derived.Test.YtoehdhhodidehaaRows
import Derived.Test.YtoehdhhodidehaaBuf
import Derived.Test.YtoehdhhodidehaaClass
import Derived.Test.YtoehdhhodidehaaTrn
import Derived.Test.YtoehdhhodidehaaRamE
import Derived.Test.YtoehdhhodidehaaRamL
import Derived.WalkKit
import Derived.Outline
import Derived.Handy
import Derived.StillTailTactics
import Derived.Deep.QuietTactic
import Derived.BigQuiet
import Derived.Deep.DeepCutAuto
import Derived.Deep.RegionHeld3
import Derived.Great.BuildSlice
import Derived.Deep.WholeRow
import Derived.Lib.SliceRun
set_option maxRecDepth 4000
set_option linter.unusedVariables false
set_option linter.unusedSimpArgs false
namespace Go.Proofs.Ytoehdhhodidehaa
open Go.RowKit

/-- c, with v in the place of number i. -/
def upd (c : Nat → Int) (i : Nat) (v : Int) : Nat → Int := fun j => if j = i then v else c j
@[simp] theorem upd_at (c : Nat → Int) (i : Nat) (v : Int) : upd c i v i = v := by simp [upd]
theorem upd_ne (c : Nat → Int) {i j : Nat} (v : Int) (h : j ≠ i) : upd c i v j = c j := by simp [upd, h]
theorem upd_comm (c : Nat → Int) {i j : Nat} (v u : Int) (h : i ≠ j) : upd (upd c i v) j u = upd (upd c j u) i v := by
  funext k
  simp only [upd]
  by_cases h1 : k = i <;> by_cases h2 : k = j <;> simp [h1, h2] <;> omega
/-- The fifteen registers. -/
def rgA (c : Nat → Int) : Array Value := #[.int .u32 (c 0), .int .u32 (c 1), .int .u32 (c 2), .int .u32 (c 3), .int .u32 (c 4), .int .u32 (c 5), .int .u32 (c 6), .int .u32 (c 7), .int .u32 (c 8), .int .u32 (c 9), .int .u32 (c 10), .int .u32 (c 11), .int .u32 (c 12), .int .u32 (c 13), .int .u32 (c 14)]
/-- A controller's cells, its address last. -/
def ncA (c : Nat → Int) (u : Value) : Array Value := #[.int .i64 (c 0), .int .i64 (c 1), .int .i64 (c 2), .int .u64 (c 3), .int .i64 (c 4), .int .i64 (c 5), .int .i64 (c 6), .int .u64 (c 7), .int .i64 (c 8), .int .i64 (c 9), .int .i64 (c 10), .int .i64 (c 11), .int .i64 (c 12), u]
abbrev ncV (c : Nat → Int) (u : Value) : Value := .agg (ncA c u)
def rgVt : Array Value := #[.int .i64 3, .int .i64 4, .int .i64 5, .int .i64 6, .int .u32 1]
def rgVr : Array Value := #[.int .i64 7, .int .i64 8, .int .i64 9, .int .i64 10, .int .u32 2]
theorem rgA_size (c : Nat → Int) : (rgA c).size = 15 := rfl
theorem ncA_size (c : Nat → Int) (u : Value) : (ncA c u).size = 14 := rfl
theorem rgA_at (c : Nat → Int) {k : Nat} (h : k < 15) : (rgA c)[k]? = some (.int .u32 (c k)) := by
  match k, h with
  | 0, _ => rfl
  | 1, _ => rfl
  | 2, _ => rfl
  | 3, _ => rfl
  | 4, _ => rfl
  | 5, _ => rfl
  | 6, _ => rfl
  | 7, _ => rfl
  | 8, _ => rfl
  | 9, _ => rfl
  | 10, _ => rfl
  | 11, _ => rfl
  | 12, _ => rfl
  | 13, _ => rfl
  | 14, _ => rfl
theorem rgA_upd (c : Nat → Int) {k : Nat} (h : k < 15) (v : Int) : (rgA c).setIfInBounds k (.int .u32 v) = rgA (upd c k v) := by
  match k, h with
  | 0, _ => rfl
  | 1, _ => rfl
  | 2, _ => rfl
  | 3, _ => rfl
  | 4, _ => rfl
  | 5, _ => rfl
  | 6, _ => rfl
  | 7, _ => rfl
  | 8, _ => rfl
  | 9, _ => rfl
  | 10, _ => rfl
  | 11, _ => rfl
  | 12, _ => rfl
  | 13, _ => rfl
  | 14, _ => rfl
theorem Blk.rg {w : World} {p k : Nat} {c : Nat → Int} {T : TypeId} (h : Blk w p (rgA c) T) (hk : k < 15) (v : Int) : Blk (w.setCell ⟨p, k, none⟩ (.int .u32 v)) p (rgA (upd c k v)) T := by
  have := h.set (o := k) (.int .u32 v)
  rwa [rgA_upd c hk v] at this
theorem Blk.rgC {w : World} {p : Nat} {c : Nat → Int} {T : TypeId} (h : Blk w p (rgA c) T) (k : Nat) (hk : k < 15) : w.cell? ⟨p, k, none⟩ = some (.int .u32 (c k)) := (h.cell k).trans (rgA_at c hk)
theorem Blk.rgO {w : World} {p : Nat} {c : Nat → Int} {T : TypeId} (h : Blk w p (rgA c) T) (k : Nat) (hk : k < 15) (z : Over w) : z.w.cell? ⟨p, k, none⟩ = some (.int .u32 (c k)) := (h.over z).rgC k hk
theorem rgA_one (c : Nat → Int) : ((rgA c).all fun x => x.oneCell') = true := by simp [rgA, Value.oneCell']
theorem ncInfo : (Try.prog.info? 25).map (·.size) = some 14 := by kernel_rfl
theorem rgInfo : (Try.prog.info? 80).map (·.size) = some 15 := by kernel_rfl
theorem dsInfo : (Try.prog.info? 86).map (·.size) = some 16 := by kernel_rfl

/-! ### What of bytes turns beside a block of registers -/
theorem Buf.trn {w w' : World} {p : Nat} {v : Value} {xs : List Int} {c : Nat → Int} {T : TypeId} (h : Buf w v xs) (hB : Blk w p (rgA c) T) (t : Trn p w w') : Buf w' v xs := by
  obtain ⟨a, k, rfl, hk, ha⟩ := h.shape
  refine ⟨⟨a, k, rfl, hk, fun hx => ?_⟩, h.ok, h.len⟩
  obtain ⟨b, off, rfl, hb⟩ := ha hx
  refine ⟨b, off, rfl, fun i hi => ?_⟩
  have h1 := hb i hi
  have hlt := hb.lt hx
  have hne : b ≠ p := by
    rintro rfl
    by_cases hk : off + i < 15
    · rw [hB.rgC _ hk] at h1; simp at h1
    · rw [hB.cell, Array.getElem?_eq_none (by rw [rgA_size]; omega)] at h1; simp at h1
  rw [t.cell hlt hne]
  exact h1
theorem Row.trn {w w' : World} {B p : Nat} {v : Value} {xs : List Int} (h : Row w B v xs) (t : Trn p w w') (hp : p < B) : Row w' B v xs := by
  refine ⟨h.1, ?_⟩
  rcases h.2 with h | ⟨b', cap, cur, e, hg, hc, r⟩
  · exact .inl h
  · refine .inr ⟨b', cap, cur, e, hg, ?_, r⟩
    rw [t.block b' (lt_of_block hc) (by omega)]
    exact hc

/-! ### Bits of small numbers -/
/-- Has x the bit of value k? -/
def bitB (k x : Int) : Bool := x / k % 2 == 1
/-- x with the bit of value k. -/
def orB (k x : Int) : Int := x + k * (1 - x / k % 2)
theorem and_1 {x : Int} (h0 : 0 ≤ x) (h1 : x < 16) : (bits .and .u32 x 1 != 0) = bitB 1 x := by
  obtain ⟨n, rfl⟩ := Int.eq_ofNat_of_zero_le h0
  have : ∀ n : Fin 16, (bits .and .u32 (n.val : Int) 1 != 0) = bitB 1 n.val := by decide
  exact this ⟨n, by omega⟩
theorem and_2 {x : Int} (h0 : 0 ≤ x) (h1 : x < 16) : (bits .and .u32 x 2 != 0) = bitB 2 x := by
  obtain ⟨n, rfl⟩ := Int.eq_ofNat_of_zero_le h0
  have : ∀ n : Fin 16, (bits .and .u32 (n.val : Int) 2 != 0) = bitB 2 n.val := by decide
  exact this ⟨n, by omega⟩
theorem and_4 {x : Int} (h0 : 0 ≤ x) (h1 : x < 16) : (bits .and .u32 x 4 != 0) = bitB 4 x := by
  obtain ⟨n, rfl⟩ := Int.eq_ofNat_of_zero_le h0
  have : ∀ n : Fin 16, (bits .and .u32 (n.val : Int) 4 != 0) = bitB 4 n.val := by decide
  exact this ⟨n, by omega⟩
theorem or_u32_1 {x : Int} (h0 : 0 ≤ x) (h1 : x < 16) : bits .or .u32 x 1 = orB 1 x := by
  obtain ⟨n, rfl⟩ := Int.eq_ofNat_of_zero_le h0
  have : ∀ n : Fin 16, bits .or .u32 (n.val : Int) 1 = orB 1 n.val := by decide
  exact this ⟨n, by omega⟩
theorem or_i64_1 {x : Int} (h0 : 0 ≤ x) (h1 : x < 16) : bits .or .i64 x 1 = orB 1 x := by
  obtain ⟨n, rfl⟩ := Int.eq_ofNat_of_zero_le h0
  have : ∀ n : Fin 16, bits .or .i64 (n.val : Int) 1 = orB 1 n.val := by decide
  exact this ⟨n, by omega⟩
theorem or_u32_2 {x : Int} (h0 : 0 ≤ x) (h1 : x < 16) : bits .or .u32 x 2 = orB 2 x := by
  obtain ⟨n, rfl⟩ := Int.eq_ofNat_of_zero_le h0
  have : ∀ n : Fin 16, bits .or .u32 (n.val : Int) 2 = orB 2 n.val := by decide
  exact this ⟨n, by omega⟩
theorem or_i64_2 {x : Int} (h0 : 0 ≤ x) (h1 : x < 16) : bits .or .i64 x 2 = orB 2 x := by
  obtain ⟨n, rfl⟩ := Int.eq_ofNat_of_zero_le h0
  have : ∀ n : Fin 16, bits .or .i64 (n.val : Int) 2 = orB 2 n.val := by decide
  exact this ⟨n, by omega⟩
theorem or_u32_4 {x : Int} (h0 : 0 ≤ x) (h1 : x < 16) : bits .or .u32 x 4 = orB 4 x := by
  obtain ⟨n, rfl⟩ := Int.eq_ofNat_of_zero_le h0
  have : ∀ n : Fin 16, bits .or .u32 (n.val : Int) 4 = orB 4 n.val := by decide
  exact this ⟨n, by omega⟩
theorem or_i64_4 {x : Int} (h0 : 0 ≤ x) (h1 : x < 16) : bits .or .i64 x 4 = orB 4 x := by
  obtain ⟨n, rfl⟩ := Int.eq_ofNat_of_zero_le h0
  have : ∀ n : Fin 16, bits .or .i64 (n.val : Int) 4 = orB 4 n.val := by decide
  exact this ⟨n, by omega⟩
theorem or_u32_8 {x : Int} (h0 : 0 ≤ x) (h1 : x < 16) : bits .or .u32 x 8 = orB 8 x := by
  obtain ⟨n, rfl⟩ := Int.eq_ofNat_of_zero_le h0
  have : ∀ n : Fin 16, bits .or .u32 (n.val : Int) 8 = orB 8 n.val := by decide
  exact this ⟨n, by omega⟩
theorem or_i64_8 {x : Int} (h0 : 0 ≤ x) (h1 : x < 16) : bits .or .i64 x 8 = orB 8 x := by
  obtain ⟨n, rfl⟩ := Int.eq_ofNat_of_zero_le h0
  have : ∀ n : Fin 16, bits .or .i64 (n.val : Int) 8 = orB 8 n.val := by decide
  exact this ⟨n, by omega⟩
theorem andn_1 {x : Int} (h0 : 0 ≤ x) (h1 : x < 8) (hb : bitB 1 x = true) : bits .andNot .u32 x 1 = x - 1 := by
  obtain ⟨n, rfl⟩ := Int.eq_ofNat_of_zero_le h0
  have : ∀ n : Fin 8, bitB 1 n.val = true → bits .andNot .u32 (n.val : Int) 1 = n.val - 1 := by decide
  exact this ⟨n, by omega⟩ hb
theorem andn_2 {x : Int} (h0 : 0 ≤ x) (h1 : x < 8) (hb : bitB 2 x = true) : bits .andNot .u32 x 2 = x - 2 := by
  obtain ⟨n, rfl⟩ := Int.eq_ofNat_of_zero_le h0
  have : ∀ n : Fin 8, bitB 2 n.val = true → bits .andNot .u32 (n.val : Int) 2 = n.val - 2 := by decide
  exact this ⟨n, by omega⟩ hb
theorem orB_lt {k x : Int} (hk : k = 1 ∨ k = 2 ∨ k = 4 ∨ k = 8) (h0 : 0 ≤ x) (h1 : x < 16) : 0 ≤ orB k x ∧ orB k x < 16 := by
  unfold orB
  rcases hk with rfl | rfl | rfl | rfl <;> omega

/-! ### What the registers become -/
def most : Int := 2147483648
def cntC (i : Nat) (c : Nat → Int) : Nat → Int := upd c i (min (c i + 1) 2147483648)
def failC (c : Nat → Int) : Nat → Int := upd (cntC 12 c) 1 (orB 4 (c 1))
def dropC (c : Nat → Int) : Nat → Int := upd (cntC 11 c) 1 (orB 8 (c 1))

/-! ### Numbers -/
theorem isBelow_c (x y : Int) (w : World) : Calls Try.prog 30 #[.int .i64 x, .int .i64 y] w fun e w' => e = .returned (.bool (decide (0 ≤ x) && decide (x < y))) ∧ w = w' := by
  cases b0 : decide (0 ≤ x) <;> cases b1 : decide (x < y)
  all_goals
    have h0 := b0
    simp only [decide_eq_true_eq, decide_eq_false_iff_not] at h0
    have h1 := b1
    simp only [decide_eq_true_eq, decide_eq_false_iff_not] at h1
    clear b0 b1
    go_enter Try.func30, Try.ntmps30
    go_wp2_with fail
    go_ret
    exact ⟨rfl, rfl⟩
theorem isLength_c (x : Int) (w : World) : Calls Try.prog 52 #[.int .i64 x] w fun e w' => e = .returned (.bool (decide (1 ≤ x) && decide (x ≤ 64))) ∧ w = w' := by
  cases b0 : decide (1 ≤ x) <;> cases b1 : decide (x ≤ 64)
  all_goals
    have h0 := b0
    simp only [decide_eq_true_eq, decide_eq_false_iff_not] at h0
    have h1 := b1
    simp only [decide_eq_true_eq, decide_eq_false_iff_not] at h1
    clear b0 b1
    go_enter Try.func52, Try.ntmps52
    go_wp2_with fail
    go_ret
    exact ⟨rfl, rfl⟩
theorem isFrame_c (x : Int) (w : World) : Calls Try.prog 61 #[.int .i64 x] w fun e w' => e = .returned (.bool (decide (14 ≤ x) && decide (x ≤ 1514))) ∧ w = w' := by
  cases b0 : decide (14 ≤ x) <;> cases b1 : decide (x ≤ 1514)
  all_goals
    have h0 := b0
    simp only [decide_eq_true_eq, decide_eq_false_iff_not] at h0
    have h1 := b1
    simp only [decide_eq_true_eq, decide_eq_false_iff_not] at h1
    clear b0 b1
    go_enter Try.func61, Try.ntmps61
    go_wp2_with fail
    go_ret
    exact ⟨rfl, rfl⟩
def belowB (x e : Int) : Bool := decide (0 ≤ x) && decide (x < e)
def lenB (x : Int) : Bool := decide (1 ≤ x) && decide (x ≤ 64)
theorem isBelow_b (x y : Int) (w : World) : Calls Try.prog 30 #[.int .i64 x, .int .i64 y] w fun e w' => e = .returned (.bool (belowB x y)) ∧ w = w' := isBelow_c x y w
theorem isLength_b (x : Int) (w : World) : Calls Try.prog 52 #[.int .i64 x] w fun e w' => e = .returned (.bool (lenB x)) ∧ w = w' := isLength_c x w
def ringB (b l h t : Int) : Bool := decide (b ≤ 4294967295) && (lenB l && (belowB h l && belowB t l))
set_option maxHeartbeats 2000000 in
theorem isRing_c (b l h t : Int) (w : World) : Calls Try.prog 31 #[.int .u64 b, .int .i64 l, .int .i64 h, .int .i64 t] w fun e w' => e = .returned (.bool (ringB b l h t)) ∧ w = w' := by
  unfold ringB
  generalize e1 : lenB l = v1 at *
  generalize e2 : belowB h l = v2 at *
  generalize e3 : belowB t l = v3 at *
  have E1 := Lib.hid e1
  have E2 := Lib.hid e2
  have E3 := Lib.hid e3
  clear e1 e2 e3
  cases b0 : decide (b ≤ 4294967295) <;> cases v1 <;> cases v2 <;> cases v3
  all_goals
    simp only [decide_eq_true_eq, decide_eq_false_iff_not] at b0
    go_enter Try.func31, Try.ntmps31
    go_wp2_with (first
      | (go_at_call 52; refine (isLength_b _ _).mono ?_; rintro e w1 ⟨rfl, rfl⟩; rw [E1.out])
      | (go_at_call 30; refine (isBelow_b _ _ _).mono ?_; rintro e w1 ⟨rfl, rfl⟩; first | rw [E2.out] | rw [E3.out]))
    go_ret
    exact ⟨rfl, rfl⟩
theorem sending_c (w : World) : Calls Try.prog 54 #[] w fun e w' => e = .returned (.agg (rgVt)) ∧ Grew w w' := by
  go_enter Try.func54, Try.ntmps54
  go_wp2_with fail
  go_returns
  exact ⟨rfl, by repeat (first | exact Grew.refl _ | refine Grew.setCell ?_ (Nat.le_refl _) _ | refine Grew.alloc ?_ _)⟩
theorem receiving_c (w : World) : Calls Try.prog 66 #[] w fun e w' => e = .returned (.agg (rgVr)) ∧ Grew w w' := by
  go_enter Try.func66, Try.ntmps66
  go_wp2_with fail
  go_returns
  exact ⟨rfl, by repeat (first | exact Grew.refl _ | refine Grew.setCell ?_ (Nat.le_refl _) _ | refine Grew.alloc ?_ _)⟩

/-! ### One register -/
theorem has_1 {c : Nat → Int} {p : Nat} {w : World} (hB : Blk w p (rgA c) 80) (h0 : 0 ≤ c 0) (h1 : c 0 < 8) : Calls Try.prog 75 #[.pointer (some ⟨p, 0, none⟩), .int .i64 0, .int .u32 1] w fun e w' => e = .returned (.bool (bitB 1 (c 0))) ∧ w = w' := by
  have c0 := hB.rgC 0 (by decide)
  have f0 := hB.free 0
  have hv := Lib.hid (and_1 (x := c 0) h0 (by omega))
  clear hB h0 h1
  generalize c 0 = x at *
  go_enter Try.func75, Try.ntmps75
  go_wp2_with fail
  go_ret
  exact ⟨ret_bool hv.out, rfl⟩
theorem has_2 {c : Nat → Int} {p : Nat} {w : World} (hB : Blk w p (rgA c) 80) (h0 : 0 ≤ c 0) (h1 : c 0 < 8) : Calls Try.prog 75 #[.pointer (some ⟨p, 0, none⟩), .int .i64 0, .int .u32 2] w fun e w' => e = .returned (.bool (bitB 2 (c 0))) ∧ w = w' := by
  have c0 := hB.rgC 0 (by decide)
  have f0 := hB.free 0
  have hv := Lib.hid (and_2 (x := c 0) h0 (by omega))
  clear hB h0 h1
  generalize c 0 = x at *
  go_enter Try.func75, Try.ntmps75
  go_wp2_with fail
  go_ret
  exact ⟨ret_bool hv.out, rfl⟩
theorem has_4 {c : Nat → Int} {p : Nat} {w : World} (hB : Blk w p (rgA c) 80) (h0 : 0 ≤ c 0) (h1 : c 0 < 8) : Calls Try.prog 75 #[.pointer (some ⟨p, 0, none⟩), .int .i64 0, .int .u32 4] w fun e w' => e = .returned (.bool (bitB 4 (c 0))) ∧ w = w' := by
  have c0 := hB.rgC 0 (by decide)
  have f0 := hB.free 0
  have hv := Lib.hid (and_4 (x := c 0) h0 (by omega))
  clear hB h0 h1
  generalize c 0 = x at *
  go_enter Try.func75, Try.ntmps75
  go_wp2_with fail
  go_ret
  exact ⟨ret_bool hv.out, rfl⟩
theorem count_11 {c : Nat → Int} {p : Nat} {w : World} (hB : Blk w p (rgA c) 80) (h0 : 0 ≤ c 11) (h1 : c 11 ≤ 2147483648) : Calls Try.prog 79 #[.pointer (some ⟨p, 0, none⟩), .int .i64 11] w fun e w' => e = .returned (.tuple #[]) ∧ Blk w' p (rgA (cntC 11 c)) 80 ∧ Trn p w w' := by
  have hw : IntKind.u32.wrap (c 11 + 1) = c 11 + 1 := by simp [IntKind.wrap, IntKind.bits, IntKind.signed]; omega
  have hmin : ∀ ts t w', (Builtin.min_ ts t #[.int .u32 (c 11 + 1), .int .u32 2147483648]).run Try.prog w' = .ok (.int .u32 (min (c 11 + 1) 2147483648)) w' := fun ts t w' => by
    rw [run_min_int2]
    congr 2
    split <;> omega
  have z0 := fun z : Over w => hB.rgO 11 (by decide) z
  have HB := Lib.hid hB
  unfold cntC
  generalize min (c 11 + 1) 2147483648 = y at *
  clear h0 h1 hB
  go_enter Try.func79, Try.ntmps79
  refine region_over_tail 11 (by kernel_rfl) (by kernel_rfl) ?_
  simp only [List.take_succ_cons, List.take_zero, List.drop_succ_cons, List.drop_zero]
  repeat (first | go_big_quiet_step (fail) | quiet_step (fail))
  refine wpQuiet_nil ?_
  intro z
  have hB := HB.out.over z
  have c0 := hB.rgC 11 (by decide)
  have f0 := hB.free 11
  have HB1 := Lib.hid hB
  have tz : Trn p w z.w := Trn.of_grew z.g
  clear hB z0 hw hmin
  generalize z.w = w1 at *
  go_wp2_with fail
  go_end0
  exact ⟨rfl, HB1.out.rg (by decide) _, tz.trans (Trn.set _ _ _ _)⟩
theorem count_12 {c : Nat → Int} {p : Nat} {w : World} (hB : Blk w p (rgA c) 80) (h0 : 0 ≤ c 12) (h1 : c 12 ≤ 2147483648) : Calls Try.prog 79 #[.pointer (some ⟨p, 0, none⟩), .int .i64 12] w fun e w' => e = .returned (.tuple #[]) ∧ Blk w' p (rgA (cntC 12 c)) 80 ∧ Trn p w w' := by
  have hw : IntKind.u32.wrap (c 12 + 1) = c 12 + 1 := by simp [IntKind.wrap, IntKind.bits, IntKind.signed]; omega
  have hmin : ∀ ts t w', (Builtin.min_ ts t #[.int .u32 (c 12 + 1), .int .u32 2147483648]).run Try.prog w' = .ok (.int .u32 (min (c 12 + 1) 2147483648)) w' := fun ts t w' => by
    rw [run_min_int2]
    congr 2
    split <;> omega
  have z0 := fun z : Over w => hB.rgO 12 (by decide) z
  have HB := Lib.hid hB
  unfold cntC
  generalize min (c 12 + 1) 2147483648 = y at *
  clear h0 h1 hB
  go_enter Try.func79, Try.ntmps79
  refine region_over_tail 11 (by kernel_rfl) (by kernel_rfl) ?_
  simp only [List.take_succ_cons, List.take_zero, List.drop_succ_cons, List.drop_zero]
  repeat (first | go_big_quiet_step (fail) | quiet_step (fail))
  refine wpQuiet_nil ?_
  intro z
  have hB := HB.out.over z
  have c0 := hB.rgC 12 (by decide)
  have f0 := hB.free 12
  have HB1 := Lib.hid hB
  have tz : Trn p w z.w := Trn.of_grew z.g
  clear hB z0 hw hmin
  generalize z.w = w1 at *
  go_wp2_with fail
  go_end0
  exact ⟨rfl, HB1.out.rg (by decide) _, tz.trans (Trn.set _ _ _ _)⟩
theorem fail_c {c : Nat → Int} {p : Nat} {w : World} (hB : Blk w p (rgA c) 80) (h0 : 0 ≤ c 12) (h1 : c 12 ≤ 2147483648) (h2 : 0 ≤ c 1) (h3 : c 1 < 16) : Calls Try.prog 62 #[.pointer (some ⟨p, 0, none⟩)] w fun e w' => e = .returned (.tuple #[]) ∧ Blk w' p (rgA (failC c)) 80 ∧ Trn p w w' := by
  have hC := Lib.hid (count_12 hB h0 h1)
  have he : cntC 12 c 1 = c 1 := upd_ne _ _ (by decide)
  have hv := or_u32_4 h2 h3
  rw [← he] at hv
  unfold failC
  rw [← he]
  clear h0 h1 h2 h3 hB he
  generalize cntC 12 c = c1 at *
  generalize orB 4 (c1 1) = y at *
  go_enter Try.func62, Try.ntmps62
  go_wp2_with fail
  refine hC.out.mono ?_
  rintro e w1 ⟨rfl, hB, t1⟩
  go_upto_region 1 with fail
  have z0 := fun z : Over w1 => hB.rgO 1 (by decide) z
  have HB := Lib.hid hB
  clear hB
  refine region_over_tail 7 (by kernel_rfl) (by kernel_rfl) ?_
  simp only [List.take_succ_cons, List.take_zero, List.drop_succ_cons, List.drop_zero]
  repeat (first | go_big_quiet_step (fail) | quiet_step (fail))
  refine wpQuiet_nil ?_
  intro z
  have hB := HB.out.over z
  have c0 := hB.rgC 1 (by decide)
  have f0 := hB.free 1
  have HB1 := Lib.hid hB
  have tz : Trn p w z.w := t1.trans (Trn.of_grew z.g)
  clear hB z0
  generalize z.w = w2 at *
  go_wp2_with fail
  go_end0
  exact ⟨rfl, HB1.out.rg (by decide) _, tz.trans (Trn.set _ _ _ _)⟩
theorem drop_c {c : Nat → Int} {p : Nat} {w : World} (hB : Blk w p (rgA c) 80) (h0 : 0 ≤ c 11) (h1 : c 11 ≤ 2147483648) (h2 : 0 ≤ c 1) (h3 : c 1 < 16) : Calls Try.prog 69 #[.pointer (some ⟨p, 0, none⟩)] w fun e w' => e = .returned (.tuple #[]) ∧ Blk w' p (rgA (dropC c)) 80 ∧ Trn p w w' := by
  have hC := Lib.hid (count_11 hB h0 h1)
  have he : cntC 11 c 1 = c 1 := upd_ne _ _ (by decide)
  have hv := or_u32_8 h2 h3
  rw [← he] at hv
  unfold dropC
  rw [← he]
  clear h0 h1 h2 h3 hB he
  generalize cntC 11 c = c1 at *
  generalize orB 8 (c1 1) = y at *
  go_enter Try.func69, Try.ntmps69
  go_wp2_with fail
  refine hC.out.mono ?_
  rintro e w1 ⟨rfl, hB, t1⟩
  go_upto_region 1 with fail
  have z0 := fun z : Over w1 => hB.rgO 1 (by decide) z
  have HB := Lib.hid hB
  clear hB
  refine region_over_tail 7 (by kernel_rfl) (by kernel_rfl) ?_
  simp only [List.take_succ_cons, List.take_zero, List.drop_succ_cons, List.drop_zero]
  repeat (first | go_big_quiet_step (fail) | quiet_step (fail))
  refine wpQuiet_nil ?_
  intro z
  have hB := HB.out.over z
  have c0 := hB.rgC 1 (by decide)
  have f0 := hB.free 1
  have HB1 := Lib.hid hB
  have tz : Trn p w z.w := t1.trans (Trn.of_grew z.g)
  clear hB z0
  generalize z.w = w2 at *
  go_wp2_with fail
  go_end0
  exact ⟨rfl, HB1.out.rg (by decide) _, tz.trans (Trn.set _ _ _ _)⟩
end Go.Proofs.Ytoehdhhodidehaa
