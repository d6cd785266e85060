/-
  Package nic: registers (rgA) and controllers (ncA) as numbers; what turns of them; contracts of small functions.
  Package nic: where a ring's descriptor is, whether it waits, what a store of its length or tail makes; parts of a descriptor.
  Package nic: a controller's value and its registers, there and back; the next descriptor, and what is done with one.
  Package nic: the descriptor of a ring's head, copied (next), and what a broken ring makes.
  Package nic: a controller taken into its registers.
  Package nic: what is done with a descriptor (done).
  Package nic: which frames a controller takes (takes).
  Package nic: rings and descriptors loaded and stored whole; memory of its own (Clone, ownRam).
  Package nic: what the registers send (send).
  Package nic: which controllers may be (Check); Line, own, find, Load.
  Package nic: what a store makes of the registers (store).
  Package nic: registers into a controller.
  Package nic: find, Load, Store, New.
-/
import Derived.Test.YtgcfmijkggpemaaGreatRows
import Derived.Test.YtgcfmijkggpemaaGreatBuf
import Derived.Test.YtgcfmijkggpemaaGreatClass
import Derived.Test.YtgcfmijkggpemaaGreatTrn
import Derived.Test.YtgcfmijkggpemaaGreatRamE
import Derived.Test.YtgcfmijkggpemaaGreatRamL
import Derived.WalkKit
import Derived.Outline
import Derived.Handy
import Derived.StillTailTactics
import Derived.Deep.QuietTactic
import Derived.BigQuiet
import Derived.Deep.DeepCutAuto
import Derived.Deep.RegionHeld3
import Derived.Great.BuildSlice
import Derived.Deep.WholeRow
import Derived.Lib.SliceRun
import Derived.Test.YtgcfmijkggpemaaGreatRamC
import Derived.Lib.Bytes
import Derived.BigFrame
set_option maxRecDepth 4000
set_option linter.unusedVariables false
set_option linter.unusedSimpArgs false
namespace Go.Proofs.YtgcfmijkggpemaaGreat
open Go.RowKit

/-- c, with v in the place of number i. -/
def upd (c : Nat → Int) (i : Nat) (v : Int) : Nat → Int := fun j => if j = i then v else c j
@[simp] theorem upd_at (c : Nat → Int) (i : Nat) (v : Int) : upd c i v i = v := by simp [upd]
theorem upd_ne (c : Nat → Int) {i j : Nat} (v : Int) (h : j ≠ i) : upd c i v j = c j := by simp [upd, h]
theorem upd_comm (c : Nat → Int) {i j : Nat} (v u : Int) (h : i ≠ j) : upd (upd c i v) j u = upd (upd c j u) i v := by
  funext k
  simp only [upd]
  by_cases h1 : k = i <;> by_cases h2 : k = j <;> simp [h1, h2] <;> omega
/-- The fifteen registers. -/
def rgA (c : Nat → Int) : Array Value := #[.int .u32 (c 0), .int .u32 (c 1), .int .u32 (c 2), .int .u32 (c 3), .int .u32 (c 4), .int .u32 (c 5), .int .u32 (c 6), .int .u32 (c 7), .int .u32 (c 8), .int .u32 (c 9), .int .u32 (c 10), .int .u32 (c 11), .int .u32 (c 12), .int .u32 (c 13), .int .u32 (c 14)]
/-- A controller's cells, its address last. -/
def ncA (c : Nat → Int) (u : Value) : Array Value := #[.int .i64 (c 0), .int .i64 (c 1), .int .i64 (c 2), .int .u64 (c 3), .int .i64 (c 4), .int .i64 (c 5), .int .i64 (c 6), .int .u64 (c 7), .int .i64 (c 8), .int .i64 (c 9), .int .i64 (c 10), .int .i64 (c 11), .int .i64 (c 12), u]
abbrev ncV (c : Nat → Int) (u : Value) : Value := .agg (ncA c u)
def rgVt : Array Value := #[.int .i64 3, .int .i64 4, .int .i64 5, .int .i64 6, .int .u32 1]
def rgVr : Array Value := #[.int .i64 7, .int .i64 8, .int .i64 9, .int .i64 10, .int .u32 2]
theorem rgA_size (c : Nat → Int) : (rgA c).size = 15 := rfl
theorem ncA_size (c : Nat → Int) (u : Value) : (ncA c u).size = 14 := rfl
theorem rgA_at (c : Nat → Int) {k : Nat} (h : k < 15) : (rgA c)[k]? = some (.int .u32 (c k)) := by
  match k, h with
  | 0, _ => rfl
  | 1, _ => rfl
  | 2, _ => rfl
  | 3, _ => rfl
  | 4, _ => rfl
  | 5, _ => rfl
  | 6, _ => rfl
  | 7, _ => rfl
  | 8, _ => rfl
  | 9, _ => rfl
  | 10, _ => rfl
  | 11, _ => rfl
  | 12, _ => rfl
  | 13, _ => rfl
  | 14, _ => rfl
theorem rgA_upd (c : Nat → Int) {k : Nat} (h : k < 15) (v : Int) : (rgA c).setIfInBounds k (.int .u32 v) = rgA (upd c k v) := by
  match k, h with
  | 0, _ => rfl
  | 1, _ => rfl
  | 2, _ => rfl
  | 3, _ => rfl
  | 4, _ => rfl
  | 5, _ => rfl
  | 6, _ => rfl
  | 7, _ => rfl
  | 8, _ => rfl
  | 9, _ => rfl
  | 10, _ => rfl
  | 11, _ => rfl
  | 12, _ => rfl
  | 13, _ => rfl
  | 14, _ => rfl
theorem Blk.rg {w : World} {p k : Nat} {c : Nat → Int} {T : TypeId} (h : Blk w p (rgA c) T) (hk : k < 15) (v : Int) : Blk (w.setCell ⟨p, k, none⟩ (.int .u32 v)) p (rgA (upd c k v)) T := by
  have := h.set (o := k) (.int .u32 v)
  rwa [rgA_upd c hk v] at this
theorem Blk.rgC {w : World} {p : Nat} {c : Nat → Int} {T : TypeId} (h : Blk w p (rgA c) T) (k : Nat) (hk : k < 15) : w.cell? ⟨p, k, none⟩ = some (.int .u32 (c k)) := (h.cell k).trans (rgA_at c hk)
theorem Blk.rgO {w : World} {p : Nat} {c : Nat → Int} {T : TypeId} (h : Blk w p (rgA c) T) (k : Nat) (hk : k < 15) (z : Over w) : z.w.cell? ⟨p, k, none⟩ = some (.int .u32 (c k)) := (h.over z).rgC k hk
theorem rgA_one (c : Nat → Int) : ((rgA c).all fun x => x.oneCell') = true := by simp [rgA, Value.oneCell']
theorem ncInfo : (Tryz.prog.info? 34).map (·.size) = some 14 := by kernel_rfl
theorem rgInfo : (Tryz.prog.info? 165).map (·.size) = some 15 := by kernel_rfl
/-! ### What of bytes turns beside a block of registers -/
theorem Buf.trn {w w' : World} {p : Nat} {v : Value} {xs : List Int} {c : Nat → Int} {T : TypeId} (h : Buf w v xs) (hB : Blk w p (rgA c) T) (t : Trn p w w') : Buf w' v xs := by
  obtain ⟨a, k, rfl, hk, ha⟩ := h.shape
  refine ⟨⟨a, k, rfl, hk, fun hx => ?_⟩, h.ok, h.len⟩
  obtain ⟨b, off, rfl, hb⟩ := ha hx
  refine ⟨b, off, rfl, fun i hi => ?_⟩
  have h1 := hb i hi
  have hlt := hb.lt hx
  have hne : b ≠ p := by
    rintro rfl
    by_cases hk : off + i < 15
    · rw [hB.rgC _ hk] at h1; simp at h1
    · rw [hB.cell, Array.getElem?_eq_none (by rw [rgA_size]; omega)] at h1; simp at h1
  rw [t.cell hlt hne]
  exact h1
theorem Row.trn {w w' : World} {B p : Nat} {v : Value} {xs : List Int} (h : Row w B v xs) (t : Trn p w w') (hp : p < B) : Row w' B v xs := by
  refine ⟨h.1, ?_⟩
  rcases h.2 with h | ⟨b', cap, cur, e, hg, hc, r⟩
  · exact .inl h
  · refine .inr ⟨b', cap, cur, e, hg, ?_, r⟩
    rw [t.block b' (lt_of_block hc) (by omega)]
    exact hc

/-! ### Bits of small numbers -/
/-- Has x the bit of value k? -/
def bitB (k x : Int) : Bool := x / k % 2 == 1
/-- x with the bit of value k. -/
def orB (k x : Int) : Int := x + k * (1 - x / k % 2)
theorem and_1 {x : Int} (h0 : 0 ≤ x) (h1 : x < 16) : (bits .and .u32 x 1 != 0) = bitB 1 x := by
  obtain ⟨n, rfl⟩ := Int.eq_ofNat_of_zero_le h0
  have : ∀ n : Fin 16, (bits .and .u32 (n.val : Int) 1 != 0) = bitB 1 n.val := by decide
  exact this ⟨n, by omega⟩
theorem and_2 {x : Int} (h0 : 0 ≤ x) (h1 : x < 16) : (bits .and .u32 x 2 != 0) = bitB 2 x := by
  obtain ⟨n, rfl⟩ := Int.eq_ofNat_of_zero_le h0
  have : ∀ n : Fin 16, (bits .and .u32 (n.val : Int) 2 != 0) = bitB 2 n.val := by decide
  exact this ⟨n, by omega⟩
theorem and_4 {x : Int} (h0 : 0 ≤ x) (h1 : x < 16) : (bits .and .u32 x 4 != 0) = bitB 4 x := by
  obtain ⟨n, rfl⟩ := Int.eq_ofNat_of_zero_le h0
  have : ∀ n : Fin 16, (bits .and .u32 (n.val : Int) 4 != 0) = bitB 4 n.val := by decide
  exact this ⟨n, by omega⟩
theorem or_u32_1 {x : Int} (h0 : 0 ≤ x) (h1 : x < 16) : bits .or .u32 x 1 = orB 1 x := by
  obtain ⟨n, rfl⟩ := Int.eq_ofNat_of_zero_le h0
  have : ∀ n : Fin 16, bits .or .u32 (n.val : Int) 1 = orB 1 n.val := by decide
  exact this ⟨n, by omega⟩
theorem or_i64_1 {x : Int} (h0 : 0 ≤ x) (h1 : x < 16) : bits .or .i64 x 1 = orB 1 x := by
  obtain ⟨n, rfl⟩ := Int.eq_ofNat_of_zero_le h0
  have : ∀ n : Fin 16, bits .or .i64 (n.val : Int) 1 = orB 1 n.val := by decide
  exact this ⟨n, by omega⟩
theorem or_u32_2 {x : Int} (h0 : 0 ≤ x) (h1 : x < 16) : bits .or .u32 x 2 = orB 2 x := by
  obtain ⟨n, rfl⟩ := Int.eq_ofNat_of_zero_le h0
  have : ∀ n : Fin 16, bits .or .u32 (n.val : Int) 2 = orB 2 n.val := by decide
  exact this ⟨n, by omega⟩
theorem or_i64_2 {x : Int} (h0 : 0 ≤ x) (h1 : x < 16) : bits .or .i64 x 2 = orB 2 x := by
  obtain ⟨n, rfl⟩ := Int.eq_ofNat_of_zero_le h0
  have : ∀ n : Fin 16, bits .or .i64 (n.val : Int) 2 = orB 2 n.val := by decide
  exact this ⟨n, by omega⟩
theorem or_u32_4 {x : Int} (h0 : 0 ≤ x) (h1 : x < 16) : bits .or .u32 x 4 = orB 4 x := by
  obtain ⟨n, rfl⟩ := Int.eq_ofNat_of_zero_le h0
  have : ∀ n : Fin 16, bits .or .u32 (n.val : Int) 4 = orB 4 n.val := by decide
  exact this ⟨n, by omega⟩
theorem or_i64_4 {x : Int} (h0 : 0 ≤ x) (h1 : x < 16) : bits .or .i64 x 4 = orB 4 x := by
  obtain ⟨n, rfl⟩ := Int.eq_ofNat_of_zero_le h0
  have : ∀ n : Fin 16, bits .or .i64 (n.val : Int) 4 = orB 4 n.val := by decide
  exact this ⟨n, by omega⟩
theorem or_u32_8 {x : Int} (h0 : 0 ≤ x) (h1 : x < 16) : bits .or .u32 x 8 = orB 8 x := by
  obtain ⟨n, rfl⟩ := Int.eq_ofNat_of_zero_le h0
  have : ∀ n : Fin 16, bits .or .u32 (n.val : Int) 8 = orB 8 n.val := by decide
  exact this ⟨n, by omega⟩
theorem or_i64_8 {x : Int} (h0 : 0 ≤ x) (h1 : x < 16) : bits .or .i64 x 8 = orB 8 x := by
  obtain ⟨n, rfl⟩ := Int.eq_ofNat_of_zero_le h0
  have : ∀ n : Fin 16, bits .or .i64 (n.val : Int) 8 = orB 8 n.val := by decide
  exact this ⟨n, by omega⟩
theorem andn_1 {x : Int} (h0 : 0 ≤ x) (h1 : x < 8) (hb : bitB 1 x = true) : bits .andNot .u32 x 1 = x - 1 := by
  obtain ⟨n, rfl⟩ := Int.eq_ofNat_of_zero_le h0
  have : ∀ n : Fin 8, bitB 1 n.val = true → bits .andNot .u32 (n.val : Int) 1 = n.val - 1 := by decide
  exact this ⟨n, by omega⟩ hb
theorem andn_2 {x : Int} (h0 : 0 ≤ x) (h1 : x < 8) (hb : bitB 2 x = true) : bits .andNot .u32 x 2 = x - 2 := by
  obtain ⟨n, rfl⟩ := Int.eq_ofNat_of_zero_le h0
  have : ∀ n : Fin 8, bitB 2 n.val = true → bits .andNot .u32 (n.val : Int) 2 = n.val - 2 := by decide
  exact this ⟨n, by omega⟩ hb
theorem orB_lt {k x : Int} (hk : k = 1 ∨ k = 2 ∨ k = 4 ∨ k = 8) (h0 : 0 ≤ x) (h1 : x < 16) : 0 ≤ orB k x ∧ orB k x < 16 := by
  unfold orB
  rcases hk with rfl | rfl | rfl | rfl <;> omega

/-! ### What the registers become -/
def most : Int := 2147483648
def cntC (i : Nat) (c : Nat → Int) : Nat → Int := upd c i (min (c i + 1) 2147483648)
def failC (c : Nat → Int) : Nat → Int := upd (cntC 12 c) 1 (orB 4 (c 1))
def dropC (c : Nat → Int) : Nat → Int := upd (cntC 11 c) 1 (orB 8 (c 1))

/-! ### Numbers -/
theorem isBelow_c (x y : Int) (w : World) : Calls Tryz.prog 94 #[.int .i64 x, .int .i64 y] w fun e w' => e = .returned (.bool (decide (0 ≤ x) && decide (x < y))) ∧ w = w' := by
  cases b0 : decide (0 ≤ x) <;> cases b1 : decide (x < y)
  all_goals
    have h0 := b0
    simp only [decide_eq_true_eq, decide_eq_false_iff_not] at h0
    have h1 := b1
    simp only [decide_eq_true_eq, decide_eq_false_iff_not] at h1
    clear b0 b1
    go_enter Tryz.func94, Tryz.ntmps94
    go_wp2_with fail
    go_ret
    exact ⟨rfl, rfl⟩
theorem isLength_c (x : Int) (w : World) : Calls Tryz.prog 110 #[.int .i64 x] w fun e w' => e = .returned (.bool (decide (1 ≤ x) && decide (x ≤ 64))) ∧ w = w' := by
  cases b0 : decide (1 ≤ x) <;> cases b1 : decide (x ≤ 64)
  all_goals
    have h0 := b0
    simp only [decide_eq_true_eq, decide_eq_false_iff_not] at h0
    have h1 := b1
    simp only [decide_eq_true_eq, decide_eq_false_iff_not] at h1
    clear b0 b1
    go_enter Tryz.func110, Tryz.ntmps110
    go_wp2_with fail
    go_ret
    exact ⟨rfl, rfl⟩
def belowB (x e : Int) : Bool := decide (0 ≤ x) && decide (x < e)
def lenB (x : Int) : Bool := decide (1 ≤ x) && decide (x ≤ 64)
theorem isBelow_b (x y : Int) (w : World) : Calls Tryz.prog 94 #[.int .i64 x, .int .i64 y] w fun e w' => e = .returned (.bool (belowB x y)) ∧ w = w' := isBelow_c x y w
theorem isLength_b (x : Int) (w : World) : Calls Tryz.prog 110 #[.int .i64 x] w fun e w' => e = .returned (.bool (lenB x)) ∧ w = w' := isLength_c x w
def ringB (b l h t : Int) : Bool := decide (b ≤ 4294967295) && (lenB l && (belowB h l && belowB t l))
set_option maxHeartbeats 2000000 in
theorem isRing_c (b l h t : Int) (w : World) : Calls Tryz.prog 95 #[.int .u64 b, .int .i64 l, .int .i64 h, .int .i64 t] w fun e w' => e = .returned (.bool (ringB b l h t)) ∧ w = w' := by
  unfold ringB
  generalize e1 : lenB l = v1 at *
  generalize e2 : belowB h l = v2 at *
  generalize e3 : belowB t l = v3 at *
  have E1 := Lib.hid e1
  have E2 := Lib.hid e2
  have E3 := Lib.hid e3
  clear e1 e2 e3
  cases b0 : decide (b ≤ 4294967295) <;> cases v1 <;> cases v2 <;> cases v3
  all_goals
    simp only [decide_eq_true_eq, decide_eq_false_iff_not] at b0
    go_enter Tryz.func95, Tryz.ntmps95
    go_wp2_with (first
      | (go_at_call 110; refine (isLength_b _ _).mono ?_; rintro e w1 ⟨rfl, rfl⟩; rw [E1.out])
      | (go_at_call 94; refine (isBelow_b _ _ _).mono ?_; rintro e w1 ⟨rfl, rfl⟩; first | rw [E2.out] | rw [E3.out]))
    go_ret
    exact ⟨rfl, rfl⟩
theorem sending_c (w : World) : Calls Tryz.prog 102 #[] w fun e w' => e = .returned (.agg (rgVt)) ∧ Grew w w' := by
  go_enter Tryz.func102, Tryz.ntmps102
  go_wp2_with fail
  go_returns
  exact ⟨rfl, by repeat (first | exact Grew.refl _ | refine Grew.setCell ?_ (Nat.le_refl _) _ | refine Grew.alloc ?_ _)⟩
theorem receiving_c (w : World) : Calls Tryz.prog 103 #[] w fun e w' => e = .returned (.agg (rgVr)) ∧ Grew w w' := by
  go_enter Tryz.func103, Tryz.ntmps103
  go_wp2_with fail
  go_returns
  exact ⟨rfl, by repeat (first | exact Grew.refl _ | refine Grew.setCell ?_ (Nat.le_refl _) _ | refine Grew.alloc ?_ _)⟩

/-! ### One register -/
end Go.Proofs.YtgcfmijkggpemaaGreat
set_option maxRecDepth 4000
set_option linter.unusedVariables false
set_option linter.unusedSimpArgs false
namespace Go.Proofs.YtgcfmijkggpemaaGreat
open Go.RowKit

def waitst (c : Nat → Int) : Bool := bitB 1 (c 0) && (c 5 != c 6)
def begint (y : Int) (c : Nat → Int) : Nat → Int := if lenB y then upd (upd (upd c 4 y) 5 0) 6 0 else c
theorem begin_t_no {c : Nat → Int} {p : Nat} {w : World} (hB : Blk w p (rgA c) 165) (y : Int) (h0 : 0 ≤ y) (h1 : y < 4294967296) (hy : lenB y = false) : Calls Tryz.prog 101 #[.pointer (some ⟨p, 0, none⟩), .agg (rgVt), .int .u32 y] w fun e w' => e = .returned (.tuple #[]) ∧ Blk w' p (rgA c) 165 ∧ Trn p w w' := by
  have hL := isLength_b y
  rw [hy] at hL
  have HL := Lib.hid hL
  have hw : IntKind.i64.wrap y = y := IntWalk.i64_in _ (by omega)
  clear hL
  have hp := hB.lt
  go_enter Tryz.func101, Tryz.ntmps101
  go_upto_region 1 with fail
  have kG : Blk (w.alloc (.cells rgVt 156)) w.heap.size rgVt 156 := Blk.new _ _ _ _ rfl
  have g0 := (Grew.refl w).alloc (.cells rgVt 156)
  replace hB := hB.alloc (.cells rgVt 156)
  generalize w.alloc (.cells rgVt 156) = w0 at *
  generalize w.heap.size = D at *
  go_wp2_with (go_at_call 110; refine (HL.out _).mono ?_; rintro e w1 ⟨rfl, rfl⟩)
  go_end0
  exact ⟨rfl, hB, Trn.of_grew g0⟩
set_option maxHeartbeats 1000000 in
theorem begin_t_yes {c : Nat → Int} {p : Nat} {w : World} (hB : Blk w p (rgA c) 165) (y : Int) (h0 : 0 ≤ y) (h1 : y < 4294967296) (hy : lenB y = true) : Calls Tryz.prog 101 #[.pointer (some ⟨p, 0, none⟩), .agg (rgVt), .int .u32 y] w fun e w' => e = .returned (.tuple #[]) ∧ Blk w' p (rgA (upd (upd (upd c 4 y) 5 0) 6 0)) 165 ∧ Trn p w w' := by
  have hL := isLength_b y
  rw [hy] at hL
  have HL := Lib.hid hL
  have hw : IntKind.i64.wrap y = y := IntWalk.i64_in _ (by omega)
  clear hL
  have hp := hB.lt
  go_enter Tryz.func101, Tryz.ntmps101
  go_upto_region 1 with fail
  have kG : Blk (w.alloc (.cells rgVt 156)) w.heap.size rgVt 156 := Blk.new _ _ _ _ rfl
  have g0 := (Grew.refl w).alloc (.cells rgVt 156)
  replace hB := hB.alloc (.cells rgVt 156)
  generalize w.alloc (.cells rgVt 156) = w0 at *
  generalize w.heap.size = D at *
  have hne : D ≠ p := by omega
  go_upto_region 2 with (go_at_call 110; refine (HL.out _).mono ?_; rintro e w1 ⟨rfl, rfl⟩)
  have c0 := hB.rgC 4 (by decide)
  have c1 := hB.rgC 5 (by decide)
  have c2 := hB.rgC 6 (by decide)
  have f0 := hB.free 4
  have f1 := hB.free 5
  have f2 := hB.free 6
  have HB := Lib.hid hB
  have t0 : Trn p w w0.drew := Trn.of_grew g0.drew1
  replace HB : Hid (Blk w0.drew p (rgA c) 165) := Lib.hid HB.out.drew
  replace c0 : w0.drew.cell? ⟨p, 4, none⟩ = _ := c0
  replace c1 : w0.drew.cell? ⟨p, 5, none⟩ = _ := c1
  replace c2 : w0.drew.cell? ⟨p, 6, none⟩ = _ := c2
  replace f0 : w0.drew.frozen? ⟨p, 4, none⟩ = _ := f0
  replace f1 : w0.drew.frozen? ⟨p, 5, none⟩ = _ := f1
  replace f2 : w0.drew.frozen? ⟨p, 6, none⟩ = _ := f2
  clear hB
  refine wp_region_held_drew (S := fun w' => Blk w' D rgVt 156) (by kernel_rfl) (kG.drew) (fun hHeld => ?_)
  replace hHeld : Blk w0.drew D rgVt 156 := hHeld
  generalize w0.drew = wq0 at *
  refine wpAnyH_take (i := 0) (v := ?_) rfl (by kernel_rfl) (by kernel_rfl) (by kernel_rfl) (fun _ _ _ h => h) (Or.inl ⟨by rfl, ?_⟩) hHeld ?_
  rotate_left
  · intro wq hSw
    replace hSw : Blk wq D rgVt 156 := hSw
    go_simp
    try with_reducible rfl
  try simp only [List.getElem_toArray, List.getElem_cons_succ, List.getElem_cons_zero, Act.put, List.setIfInBounds_toArray, List.set_cons_zero, List.set_cons_succ]
  refine wpAnyH_take (i := 1) (v := ?_) rfl (by kernel_rfl) (by kernel_rfl) (by kernel_rfl) (fun _ _ _ h => h) (Or.inl ⟨by rfl, ?_⟩) hHeld ?_
  rotate_left
  · intro wq hSw
    replace hSw : Blk wq D rgVt 156 := hSw
    go_simp
    try with_reducible rfl
  try simp only [List.getElem_toArray, List.getElem_cons_succ, List.getElem_cons_zero, Act.put, List.setIfInBounds_toArray, List.set_cons_zero, List.set_cons_succ]
  refine wpAnyH_take (i := 2) (v := ?_) rfl (by kernel_rfl) (by kernel_rfl) (by kernel_rfl) (fun _ _ _ h => h) (Or.inl ⟨by rfl, ?_⟩) hHeld ?_
  rotate_left
  · intro wq hSw
    replace hSw : Blk wq D rgVt 156 := hSw
    have z0 : wq.cell? ⟨D, 1, none⟩ = some (.int .i64 4) := hSw.cell 1
    go_simp
    try with_reducible rfl
  try simp only [List.getElem_toArray, List.getElem_cons_succ, List.getElem_cons_zero, Act.put, List.setIfInBounds_toArray, List.set_cons_zero, List.set_cons_succ]
  refine wpAnyH_take (i := 3) (v := ?_) rfl (by kernel_rfl) (by kernel_rfl) (by kernel_rfl) (fun _ _ _ h => h) (Or.inl ⟨by rfl, ?_⟩) hHeld ?_
  rotate_left
  · intro wq hSw
    replace hSw : Blk wq D rgVt 156 := hSw
    go_simp
    try with_reducible rfl
  try simp only [List.getElem_toArray, List.getElem_cons_succ, List.getElem_cons_zero, Act.put, List.setIfInBounds_toArray, List.set_cons_zero, List.set_cons_succ]
  refine wpAnyH_take (i := 4) (v := ?_) rfl (by kernel_rfl) (by kernel_rfl) (by kernel_rfl) (fun _ _ _ h => h) (Or.inl ⟨by rfl, ?_⟩) hHeld ?_
  rotate_left
  · intro wq hSw
    replace hSw : Blk wq D rgVt 156 := hSw
    go_simp
    try with_reducible rfl
  try simp only [List.getElem_toArray, List.getElem_cons_succ, List.getElem_cons_zero, Act.put, List.setIfInBounds_toArray, List.set_cons_zero, List.set_cons_succ]
  refine wpAnyH_take (i := 5) (v := ?_) rfl (by kernel_rfl) (by kernel_rfl) (by kernel_rfl) (fun _ _ _ h => h) (Or.inl ⟨by rfl, ?_⟩) hHeld ?_
  rotate_left
  · intro wq hSw
    replace hSw : Blk wq D rgVt 156 := hSw
    have z0 : wq.cell? ⟨D, 2, none⟩ = some (.int .i64 5) := hSw.cell 2
    go_simp
    try with_reducible rfl
  try simp only [List.getElem_toArray, List.getElem_cons_succ, List.getElem_cons_zero, Act.put, List.setIfInBounds_toArray, List.set_cons_zero, List.set_cons_succ]
  refine wpAnyH_take (i := 6) (v := ?_) rfl (by kernel_rfl) (by kernel_rfl) (by kernel_rfl) (fun _ _ _ h => h) (Or.inl ⟨by rfl, ?_⟩) hHeld ?_
  rotate_left
  · intro wq hSw
    replace hSw : Blk wq D rgVt 156 := hSw
    go_simp
    try with_reducible rfl
  try simp only [List.getElem_toArray, List.getElem_cons_succ, List.getElem_cons_zero, Act.put, List.setIfInBounds_toArray, List.set_cons_zero, List.set_cons_succ]
  refine wpAnyH_take (i := 7) (v := ?_) rfl (by kernel_rfl) (by kernel_rfl) (by kernel_rfl) (fun _ _ _ h => h) (Or.inl ⟨by rfl, ?_⟩) hHeld ?_
  rotate_left
  · intro wq hSw
    replace hSw : Blk wq D rgVt 156 := hSw
    go_simp
    try with_reducible rfl
  try simp only [List.getElem_toArray, List.getElem_cons_succ, List.getElem_cons_zero, Act.put, List.setIfInBounds_toArray, List.set_cons_zero, List.set_cons_succ]
  refine wpAnyH_take (i := 8) (v := ?_) rfl (by kernel_rfl) (by kernel_rfl) (by kernel_rfl) (fun _ _ _ h => h) (Or.inl ⟨by rfl, ?_⟩) hHeld ?_
  rotate_left
  · intro wq hSw
    replace hSw : Blk wq D rgVt 156 := hSw
    have z0 : wq.cell? ⟨D, 3, none⟩ = some (.int .i64 6) := hSw.cell 3
    go_simp
    try with_reducible rfl
  try simp only [List.getElem_toArray, List.getElem_cons_succ, List.getElem_cons_zero, Act.put, List.setIfInBounds_toArray, List.set_cons_zero, List.set_cons_succ]
  refine wpAnyH_take (i := 9) (v := ?_) rfl (by kernel_rfl) (by kernel_rfl) (by kernel_rfl) (fun _ _ _ h => h) (Or.inl ⟨by rfl, ?_⟩) hHeld ?_
  rotate_left
  · intro wq hSw
    replace hSw : Blk wq D rgVt 156 := hSw
    go_simp
    try with_reducible rfl
  try simp only [List.getElem_toArray, List.getElem_cons_succ, List.getElem_cons_zero, Act.put, List.setIfInBounds_toArray, List.set_cons_zero, List.set_cons_succ]
  refine wpAnyH_take (i := 10) (v := ?_) rfl (by kernel_rfl) (by kernel_rfl) (by kernel_rfl) (fun _ _ _ h => h) (Or.inl ⟨by rfl, ?_⟩) hHeld ?_
  rotate_left
  · intro wq hSw
    replace hSw : Blk wq D rgVt 156 := hSw
    go_simp
    try with_reducible rfl
  try simp only [List.getElem_toArray, List.getElem_cons_succ, List.getElem_cons_zero, Act.put, List.setIfInBounds_toArray, List.set_cons_zero, List.set_cons_succ]
  refine wpAnyH_take (i := 11) (v := ?_) rfl (by kernel_rfl) (by kernel_rfl) (by kernel_rfl) (fun _ _ _ h => h) (Or.inl ⟨by rfl, ?_⟩) hHeld ?_
  rotate_left
  · intro wq hSw
    replace hSw : Blk wq D rgVt 156 := hSw
    go_simp
    try with_reducible rfl
  try simp only [List.getElem_toArray, List.getElem_cons_succ, List.getElem_cons_zero, Act.put, List.setIfInBounds_toArray, List.set_cons_zero, List.set_cons_succ]
  refine wpAnyH_take (i := 13) (v := ?_) rfl (by kernel_rfl) (by kernel_rfl) (by kernel_rfl) (fun _ _ _ h => h) (Or.inl ⟨by rfl, ?_⟩) hHeld ?_
  rotate_left
  · intro wq hSw
    replace hSw : Blk wq D rgVt 156 := hSw
    go_simp
    try with_reducible rfl
  try simp only [List.getElem_toArray, List.getElem_cons_succ, List.getElem_cons_zero, Act.put, List.setIfInBounds_toArray, List.set_cons_zero, List.set_cons_succ]
  refine wpAnyH_take (i := 16) (v := ?_) rfl (by kernel_rfl) (by kernel_rfl) (by kernel_rfl) (fun _ _ _ h => h) (Or.inl ⟨by rfl, ?_⟩) hHeld ?_
  rotate_left
  · intro wq hSw
    replace hSw : Blk wq D rgVt 156 := hSw
    go_simp
    try with_reducible rfl
  try simp only [List.getElem_toArray, List.getElem_cons_succ, List.getElem_cons_zero, Act.put, List.setIfInBounds_toArray, List.set_cons_zero, List.set_cons_succ]
  refine wpAnyH_ready (rs := [12]) (by kernel_rfl) (by simp) ?_
  refine AllReadyH.cons rfl (fun K hK => ?_) AllReadyH.nil
  go_simp
  refine hK.out _ _ (by exact hHeld.other hne _) (fun hHeld => ?_)
  clear hK K
  try simp only [List.getElem_toArray, List.getElem_cons_succ, List.getElem_cons_zero, Act.put, List.setIfInBounds_toArray, List.set_cons_zero, List.set_cons_succ]
  refine wpAnyH_take (i := 14) (v := ?_) rfl (by kernel_rfl) (by kernel_rfl) (by kernel_rfl) (fun _ _ _ h => h) (Or.inl ⟨by rfl, ?_⟩) hHeld ?_
  rotate_left
  · intro wq hSw
    replace hSw : Blk wq D rgVt 156 := hSw
    go_simp
    try with_reducible rfl
  try simp only [List.getElem_toArray, List.getElem_cons_succ, List.getElem_cons_zero, Act.put, List.setIfInBounds_toArray, List.set_cons_zero, List.set_cons_succ]
  refine wpAnyH_ready (rs := [15]) (by kernel_rfl) (by simp) ?_
  refine AllReadyH.cons rfl (fun K hK => ?_) AllReadyH.nil
  go_simp
  refine hK.out _ _ (by exact hHeld.other hne _) (fun hHeld => ?_)
  clear hK K
  try simp only [List.getElem_toArray, List.getElem_cons_succ, List.getElem_cons_zero, Act.put, List.setIfInBounds_toArray, List.set_cons_zero, List.set_cons_succ]
  refine wpAnyH_take (i := 17) (v := ?_) rfl (by kernel_rfl) (by kernel_rfl) (by kernel_rfl) (fun _ _ _ h => h) (Or.inl ⟨by rfl, ?_⟩) hHeld ?_
  rotate_left
  · intro wq hSw
    replace hSw : Blk wq D rgVt 156 := hSw
    go_simp
    try with_reducible rfl
  try simp only [List.getElem_toArray, List.getElem_cons_succ, List.getElem_cons_zero, Act.put, List.setIfInBounds_toArray, List.set_cons_zero, List.set_cons_succ]
  refine wpAnyH_ready (rs := [18]) (by kernel_rfl) (by simp) ?_
  refine AllReadyH.cons rfl (fun K hK => ?_) AllReadyH.nil
  go_simp
  refine hK.out _ _ (by exact hHeld.other hne _) (fun hHeld => ?_)
  clear hK K
  try simp only [List.getElem_toArray, List.getElem_cons_succ, List.getElem_cons_zero, Act.put, List.setIfInBounds_toArray, List.set_cons_zero, List.set_cons_succ]
  refine wpAnyH_done (by kernel_rfl) ?_ _
  try simp only [List.getElem_toArray, List.getElem_cons_succ, List.getElem_cons_zero, Act.put, List.setIfInBounds_toArray, List.set_cons_zero, List.set_cons_succ]
  go_wp2_with fail
  go_end0
  exact ⟨rfl, ((HB.out.rg (by decide) y).rg (by decide) 0).rg (by decide) 0, ((t0.trans (Trn.set _ _ _ _)).trans (Trn.set _ _ _ _)).trans (Trn.set _ _ _ _)⟩
theorem begin_t {c : Nat → Int} {p : Nat} {w : World} (hB : Blk w p (rgA c) 165) (y : Int) (h0 : 0 ≤ y) (h1 : y < 4294967296) : Calls Tryz.prog 101 #[.pointer (some ⟨p, 0, none⟩), .agg (rgVt), .int .u32 y] w fun e w' => e = .returned (.tuple #[]) ∧ Blk w' p (rgA (begint y c)) 165 ∧ Trn p w w' := by
  unfold begint
  cases hy : lenB y
  · exact begin_t_no hB y h0 h1 hy
  · exact begin_t_yes hB y h0 h1 hy
def reacht (y : Int) (c : Nat → Int) : Nat → Int := if y < c 4 then upd c 6 y else c
set_option maxHeartbeats 1000000 in
theorem reach_t {c : Nat → Int} {p : Nat} {w : World} (hB : Blk w p (rgA c) 165) (y : Int) : Calls Tryz.prog 104 #[.pointer (some ⟨p, 0, none⟩), .agg (rgVt), .int .u32 y] w fun e w' => e = .returned (.tuple #[]) ∧ Blk w' p (rgA (reacht y c)) 165 ∧ Trn p w w' := by
  have hp := hB.lt
  unfold reacht
  by_cases hy : y < c 4
  · rw [if_pos hy]
    go_enter Tryz.func104, Tryz.ntmps104
    go_upto_region 1 with fail
    have kG : Blk (w.alloc (.cells rgVt 156)) w.heap.size rgVt 156 := Blk.new _ _ _ _ rfl
    have g0 := (Grew.refl w).alloc (.cells rgVt 156)
    replace hB := hB.alloc (.cells rgVt 156)
    generalize w.alloc (.cells rgVt 156) = w0 at *
    generalize w.heap.size = D at *
    have hne : D ≠ p := by omega
    have z0 := fun z : Over w0 => hB.rgO 4 (by decide) z
    have z1 := fun z : Over w0 => kG.overCell 1 (.int .i64 4) rfl z
    refine region_over (by kernel_rfl) (by kernel_rfl) ?_
    repeat (first | go_big_quiet_step (fail) | quiet_step (fail))
    refine wpQuiet_nil ?_
    intro z
    have kG1 := kG.over z
    have hB1 := hB.over z
    have g1 := g0.trans z.g
    clear z0 z1 kG hB g0
    generalize z.w = w1 at *
    go_upto_region 2 with fail
    have z1 := fun z : Over w1 => kG1.overCell 3 (.int .i64 6) rfl z
    refine region_over_tail 5 (by kernel_rfl) (by kernel_rfl) ?_
    simp only [List.take_succ_cons, List.take_zero, List.drop_succ_cons, List.drop_zero]
    repeat (first | go_big_quiet_step (fail) | quiet_step (fail))
    refine wpQuiet_nil ?_
    intro z
    have hB2 := hB1.over z
    have g2 := g1.trans z.g
    have c0 := hB2.rgC 6 (by decide)
    have f0 := hB2.free 6
    have HB2 := Lib.hid hB2
    clear z1 kG1 hB1 hB2 g1
    generalize z.w = w2 at *
    go_wp2_with fail
    go_end0
    exact ⟨rfl, HB2.out.rg (by decide) _, (Trn.of_grew g2).trans (Trn.set _ _ _ _)⟩
  · rw [if_neg hy]
    go_enter Tryz.func104, Tryz.ntmps104
    go_upto_region 1 with fail
    have kG : Blk (w.alloc (.cells rgVt 156)) w.heap.size rgVt 156 := Blk.new _ _ _ _ rfl
    have g0 := (Grew.refl w).alloc (.cells rgVt 156)
    replace hB := hB.alloc (.cells rgVt 156)
    generalize w.alloc (.cells rgVt 156) = w0 at *
    generalize w.heap.size = D at *
    have hne : D ≠ p := by omega
    have z0 := fun z : Over w0 => hB.rgO 4 (by decide) z
    have z1 := fun z : Over w0 => kG.overCell 1 (.int .i64 4) rfl z
    refine region_over (by kernel_rfl) (by kernel_rfl) ?_
    repeat (first | go_big_quiet_step (fail) | quiet_step (fail))
    refine wpQuiet_nil ?_
    intro z
    have kG1 := kG.over z
    have hB1 := hB.over z
    have g1 := g0.trans z.g
    clear z0 z1 kG hB g0
    generalize z.w = w1 at *
    go_wp2_with fail
    go_end0
    exact ⟨rfl, hB1, Trn.of_grew g1⟩
def waitsr (c : Nat → Int) : Bool := bitB 2 (c 0) && (c 9 != c 10)
def beginr (y : Int) (c : Nat → Int) : Nat → Int := if lenB y then upd (upd (upd c 8 y) 9 0) 10 0 else c
theorem begin_r_no {c : Nat → Int} {p : Nat} {w : World} (hB : Blk w p (rgA c) 165) (y : Int) (h0 : 0 ≤ y) (h1 : y < 4294967296) (hy : lenB y = false) : Calls Tryz.prog 101 #[.pointer (some ⟨p, 0, none⟩), .agg (rgVr), .int .u32 y] w fun e w' => e = .returned (.tuple #[]) ∧ Blk w' p (rgA c) 165 ∧ Trn p w w' := by
  have hL := isLength_b y
  rw [hy] at hL
  have HL := Lib.hid hL
  have hw : IntKind.i64.wrap y = y := IntWalk.i64_in _ (by omega)
  clear hL
  have hp := hB.lt
  go_enter Tryz.func101, Tryz.ntmps101
  go_upto_region 1 with fail
  have kG : Blk (w.alloc (.cells rgVr 156)) w.heap.size rgVr 156 := Blk.new _ _ _ _ rfl
  have g0 := (Grew.refl w).alloc (.cells rgVr 156)
  replace hB := hB.alloc (.cells rgVr 156)
  generalize w.alloc (.cells rgVr 156) = w0 at *
  generalize w.heap.size = D at *
  go_wp2_with (go_at_call 110; refine (HL.out _).mono ?_; rintro e w1 ⟨rfl, rfl⟩)
  go_end0
  exact ⟨rfl, hB, Trn.of_grew g0⟩
set_option maxHeartbeats 1000000 in
theorem begin_r_yes {c : Nat → Int} {p : Nat} {w : World} (hB : Blk w p (rgA c) 165) (y : Int) (h0 : 0 ≤ y) (h1 : y < 4294967296) (hy : lenB y = true) : Calls Tryz.prog 101 #[.pointer (some ⟨p, 0, none⟩), .agg (rgVr), .int .u32 y] w fun e w' => e = .returned (.tuple #[]) ∧ Blk w' p (rgA (upd (upd (upd c 8 y) 9 0) 10 0)) 165 ∧ Trn p w w' := by
  have hL := isLength_b y
  rw [hy] at hL
  have HL := Lib.hid hL
  have hw : IntKind.i64.wrap y = y := IntWalk.i64_in _ (by omega)
  clear hL
  have hp := hB.lt
  go_enter Tryz.func101, Tryz.ntmps101
  go_upto_region 1 with fail
  have kG : Blk (w.alloc (.cells rgVr 156)) w.heap.size rgVr 156 := Blk.new _ _ _ _ rfl
  have g0 := (Grew.refl w).alloc (.cells rgVr 156)
  replace hB := hB.alloc (.cells rgVr 156)
  generalize w.alloc (.cells rgVr 156) = w0 at *
  generalize w.heap.size = D at *
  have hne : D ≠ p := by omega
  go_upto_region 2 with (go_at_call 110; refine (HL.out _).mono ?_; rintro e w1 ⟨rfl, rfl⟩)
  have c0 := hB.rgC 8 (by decide)
  have c1 := hB.rgC 9 (by decide)
  have c2 := hB.rgC 10 (by decide)
  have f0 := hB.free 8
  have f1 := hB.free 9
  have f2 := hB.free 10
  have HB := Lib.hid hB
  have t0 : Trn p w w0.drew := Trn.of_grew g0.drew1
  replace HB : Hid (Blk w0.drew p (rgA c) 165) := Lib.hid HB.out.drew
  replace c0 : w0.drew.cell? ⟨p, 8, none⟩ = _ := c0
  replace c1 : w0.drew.cell? ⟨p, 9, none⟩ = _ := c1
  replace c2 : w0.drew.cell? ⟨p, 10, none⟩ = _ := c2
  replace f0 : w0.drew.frozen? ⟨p, 8, none⟩ = _ := f0
  replace f1 : w0.drew.frozen? ⟨p, 9, none⟩ = _ := f1
  replace f2 : w0.drew.frozen? ⟨p, 10, none⟩ = _ := f2
  clear hB
  refine wp_region_held_drew (S := fun w' => Blk w' D rgVr 156) (by kernel_rfl) (kG.drew) (fun hHeld => ?_)
  replace hHeld : Blk w0.drew D rgVr 156 := hHeld
  generalize w0.drew = wq0 at *
  refine wpAnyH_take (i := 0) (v := ?_) rfl (by kernel_rfl) (by kernel_rfl) (by kernel_rfl) (fun _ _ _ h => h) (Or.inl ⟨by rfl, ?_⟩) hHeld ?_
  rotate_left
  · intro wq hSw
    replace hSw : Blk wq D rgVr 156 := hSw
    go_simp
    try with_reducible rfl
  try simp only [List.getElem_toArray, List.getElem_cons_succ, List.getElem_cons_zero, Act.put, List.setIfInBounds_toArray, List.set_cons_zero, List.set_cons_succ]
  refine wpAnyH_take (i := 1) (v := ?_) rfl (by kernel_rfl) (by kernel_rfl) (by kernel_rfl) (fun _ _ _ h => h) (Or.inl ⟨by rfl, ?_⟩) hHeld ?_
  rotate_left
  · intro wq hSw
    replace hSw : Blk wq D rgVr 156 := hSw
    go_simp
    try with_reducible rfl
  try simp only [List.getElem_toArray, List.getElem_cons_succ, List.getElem_cons_zero, Act.put, List.setIfInBounds_toArray, List.set_cons_zero, List.set_cons_succ]
  refine wpAnyH_take (i := 2) (v := ?_) rfl (by kernel_rfl) (by kernel_rfl) (by kernel_rfl) (fun _ _ _ h => h) (Or.inl ⟨by rfl, ?_⟩) hHeld ?_
  rotate_left
  · intro wq hSw
    replace hSw : Blk wq D rgVr 156 := hSw
    have z0 : wq.cell? ⟨D, 1, none⟩ = some (.int .i64 8) := hSw.cell 1
    go_simp
    try with_reducible rfl
  try simp only [List.getElem_toArray, List.getElem_cons_succ, List.getElem_cons_zero, Act.put, List.setIfInBounds_toArray, List.set_cons_zero, List.set_cons_succ]
  refine wpAnyH_take (i := 3) (v := ?_) rfl (by kernel_rfl) (by kernel_rfl) (by kernel_rfl) (fun _ _ _ h => h) (Or.inl ⟨by rfl, ?_⟩) hHeld ?_
  rotate_left
  · intro wq hSw
    replace hSw : Blk wq D rgVr 156 := hSw
    go_simp
    try with_reducible rfl
  try simp only [List.getElem_toArray, List.getElem_cons_succ, List.getElem_cons_zero, Act.put, List.setIfInBounds_toArray, List.set_cons_zero, List.set_cons_succ]
  refine wpAnyH_take (i := 4) (v := ?_) rfl (by kernel_rfl) (by kernel_rfl) (by kernel_rfl) (fun _ _ _ h => h) (Or.inl ⟨by rfl, ?_⟩) hHeld ?_
  rotate_left
  · intro wq hSw
    replace hSw : Blk wq D rgVr 156 := hSw
    go_simp
    try with_reducible rfl
  try simp only [List.getElem_toArray, List.getElem_cons_succ, List.getElem_cons_zero, Act.put, List.setIfInBounds_toArray, List.set_cons_zero, List.set_cons_succ]
  refine wpAnyH_take (i := 5) (v := ?_) rfl (by kernel_rfl) (by kernel_rfl) (by kernel_rfl) (fun _ _ _ h => h) (Or.inl ⟨by rfl, ?_⟩) hHeld ?_
  rotate_left
  · intro wq hSw
    replace hSw : Blk wq D rgVr 156 := hSw
    have z0 : wq.cell? ⟨D, 2, none⟩ = some (.int .i64 9) := hSw.cell 2
    go_simp
    try with_reducible rfl
  try simp only [List.getElem_toArray, List.getElem_cons_succ, List.getElem_cons_zero, Act.put, List.setIfInBounds_toArray, List.set_cons_zero, List.set_cons_succ]
  refine wpAnyH_take (i := 6) (v := ?_) rfl (by kernel_rfl) (by kernel_rfl) (by kernel_rfl) (fun _ _ _ h => h) (Or.inl ⟨by rfl, ?_⟩) hHeld ?_
  rotate_left
  · intro wq hSw
    replace hSw : Blk wq D rgVr 156 := hSw
    go_simp
    try with_reducible rfl
  try simp only [List.getElem_toArray, List.getElem_cons_succ, List.getElem_cons_zero, Act.put, List.setIfInBounds_toArray, List.set_cons_zero, List.set_cons_succ]
  refine wpAnyH_take (i := 7) (v := ?_) rfl (by kernel_rfl) (by kernel_rfl) (by kernel_rfl) (fun _ _ _ h => h) (Or.inl ⟨by rfl, ?_⟩) hHeld ?_
  rotate_left
  · intro wq hSw
    replace hSw : Blk wq D rgVr 156 := hSw
    go_simp
    try with_reducible rfl
  try simp only [List.getElem_toArray, List.getElem_cons_succ, List.getElem_cons_zero, Act.put, List.setIfInBounds_toArray, List.set_cons_zero, List.set_cons_succ]
  refine wpAnyH_take (i := 8) (v := ?_) rfl (by kernel_rfl) (by kernel_rfl) (by kernel_rfl) (fun _ _ _ h => h) (Or.inl ⟨by rfl, ?_⟩) hHeld ?_
  rotate_left
  · intro wq hSw
    replace hSw : Blk wq D rgVr 156 := hSw
    have z0 : wq.cell? ⟨D, 3, none⟩ = some (.int .i64 10) := hSw.cell 3
    go_simp
    try with_reducible rfl
  try simp only [List.getElem_toArray, List.getElem_cons_succ, List.getElem_cons_zero, Act.put, List.setIfInBounds_toArray, List.set_cons_zero, List.set_cons_succ]
  refine wpAnyH_take (i := 9) (v := ?_) rfl (by kernel_rfl) (by kernel_rfl) (by kernel_rfl) (fun _ _ _ h => h) (Or.inl ⟨by rfl, ?_⟩) hHeld ?_
  rotate_left
  · intro wq hSw
    replace hSw : Blk wq D rgVr 156 := hSw
    go_simp
    try with_reducible rfl
  try simp only [List.getElem_toArray, List.getElem_cons_succ, List.getElem_cons_zero, Act.put, List.setIfInBounds_toArray, List.set_cons_zero, List.set_cons_succ]
  refine wpAnyH_take (i := 10) (v := ?_) rfl (by kernel_rfl) (by kernel_rfl) (by kernel_rfl) (fun _ _ _ h => h) (Or.inl ⟨by rfl, ?_⟩) hHeld ?_
  rotate_left
  · intro wq hSw
    replace hSw : Blk wq D rgVr 156 := hSw
    go_simp
    try with_reducible rfl
  try simp only [List.getElem_toArray, List.getElem_cons_succ, List.getElem_cons_zero, Act.put, List.setIfInBounds_toArray, List.set_cons_zero, List.set_cons_succ]
  refine wpAnyH_take (i := 11) (v := ?_) rfl (by kernel_rfl) (by kernel_rfl) (by kernel_rfl) (fun _ _ _ h => h) (Or.inl ⟨by rfl, ?_⟩) hHeld ?_
  rotate_left
  · intro wq hSw
    replace hSw : Blk wq D rgVr 156 := hSw
    go_simp
    try with_reducible rfl
  try simp only [List.getElem_toArray, List.getElem_cons_succ, List.getElem_cons_zero, Act.put, List.setIfInBounds_toArray, List.set_cons_zero, List.set_cons_succ]
  refine wpAnyH_take (i := 13) (v := ?_) rfl (by kernel_rfl) (by kernel_rfl) (by kernel_rfl) (fun _ _ _ h => h) (Or.inl ⟨by rfl, ?_⟩) hHeld ?_
  rotate_left
  · intro wq hSw
    replace hSw : Blk wq D rgVr 156 := hSw
    go_simp
    try with_reducible rfl
  try simp only [List.getElem_toArray, List.getElem_cons_succ, List.getElem_cons_zero, Act.put, List.setIfInBounds_toArray, List.set_cons_zero, List.set_cons_succ]
  refine wpAnyH_take (i := 16) (v := ?_) rfl (by kernel_rfl) (by kernel_rfl) (by kernel_rfl) (fun _ _ _ h => h) (Or.inl ⟨by rfl, ?_⟩) hHeld ?_
  rotate_left
  · intro wq hSw
    replace hSw : Blk wq D rgVr 156 := hSw
    go_simp
    try with_reducible rfl
  try simp only [List.getElem_toArray, List.getElem_cons_succ, List.getElem_cons_zero, Act.put, List.setIfInBounds_toArray, List.set_cons_zero, List.set_cons_succ]
  refine wpAnyH_ready (rs := [12]) (by kernel_rfl) (by simp) ?_
  refine AllReadyH.cons rfl (fun K hK => ?_) AllReadyH.nil
  go_simp
  refine hK.out _ _ (by exact hHeld.other hne _) (fun hHeld => ?_)
  clear hK K
  try simp only [List.getElem_toArray, List.getElem_cons_succ, List.getElem_cons_zero, Act.put, List.setIfInBounds_toArray, List.set_cons_zero, List.set_cons_succ]
  refine wpAnyH_take (i := 14) (v := ?_) rfl (by kernel_rfl) (by kernel_rfl) (by kernel_rfl) (fun _ _ _ h => h) (Or.inl ⟨by rfl, ?_⟩) hHeld ?_
  rotate_left
  · intro wq hSw
    replace hSw : Blk wq D rgVr 156 := hSw
    go_simp
    try with_reducible rfl
  try simp only [List.getElem_toArray, List.getElem_cons_succ, List.getElem_cons_zero, Act.put, List.setIfInBounds_toArray, List.set_cons_zero, List.set_cons_succ]
  refine wpAnyH_ready (rs := [15]) (by kernel_rfl) (by simp) ?_
  refine AllReadyH.cons rfl (fun K hK => ?_) AllReadyH.nil
  go_simp
  refine hK.out _ _ (by exact hHeld.other hne _) (fun hHeld => ?_)
  clear hK K
  try simp only [List.getElem_toArray, List.getElem_cons_succ, List.getElem_cons_zero, Act.put, List.setIfInBounds_toArray, List.set_cons_zero, List.set_cons_succ]
  refine wpAnyH_take (i := 17) (v := ?_) rfl (by kernel_rfl) (by kernel_rfl) (by kernel_rfl) (fun _ _ _ h => h) (Or.inl ⟨by rfl, ?_⟩) hHeld ?_
  rotate_left
  · intro wq hSw
    replace hSw : Blk wq D rgVr 156 := hSw
    go_simp
    try with_reducible rfl
  try simp only [List.getElem_toArray, List.getElem_cons_succ, List.getElem_cons_zero, Act.put, List.setIfInBounds_toArray, List.set_cons_zero, List.set_cons_succ]
  refine wpAnyH_ready (rs := [18]) (by kernel_rfl) (by simp) ?_
  refine AllReadyH.cons rfl (fun K hK => ?_) AllReadyH.nil
  go_simp
  refine hK.out _ _ (by exact hHeld.other hne _) (fun hHeld => ?_)
  clear hK K
  try simp only [List.getElem_toArray, List.getElem_cons_succ, List.getElem_cons_zero, Act.put, List.setIfInBounds_toArray, List.set_cons_zero, List.set_cons_succ]
  refine wpAnyH_done (by kernel_rfl) ?_ _
  try simp only [List.getElem_toArray, List.getElem_cons_succ, List.getElem_cons_zero, Act.put, List.setIfInBounds_toArray, List.set_cons_zero, List.set_cons_succ]
  go_wp2_with fail
  go_end0
  exact ⟨rfl, ((HB.out.rg (by decide) y).rg (by decide) 0).rg (by decide) 0, ((t0.trans (Trn.set _ _ _ _)).trans (Trn.set _ _ _ _)).trans (Trn.set _ _ _ _)⟩
theorem begin_r {c : Nat → Int} {p : Nat} {w : World} (hB : Blk w p (rgA c) 165) (y : Int) (h0 : 0 ≤ y) (h1 : y < 4294967296) : Calls Tryz.prog 101 #[.pointer (some ⟨p, 0, none⟩), .agg (rgVr), .int .u32 y] w fun e w' => e = .returned (.tuple #[]) ∧ Blk w' p (rgA (beginr y c)) 165 ∧ Trn p w w' := by
  unfold beginr
  cases hy : lenB y
  · exact begin_r_no hB y h0 h1 hy
  · exact begin_r_yes hB y h0 h1 hy
def reachr (y : Int) (c : Nat → Int) : Nat → Int := if y < c 8 then upd c 10 y else c
set_option maxHeartbeats 1000000 in
theorem reach_r {c : Nat → Int} {p : Nat} {w : World} (hB : Blk w p (rgA c) 165) (y : Int) : Calls Tryz.prog 104 #[.pointer (some ⟨p, 0, none⟩), .agg (rgVr), .int .u32 y] w fun e w' => e = .returned (.tuple #[]) ∧ Blk w' p (rgA (reachr y c)) 165 ∧ Trn p w w' := by
  have hp := hB.lt
  unfold reachr
  by_cases hy : y < c 8
  · rw [if_pos hy]
    go_enter Tryz.func104, Tryz.ntmps104
    go_upto_region 1 with fail
    have kG : Blk (w.alloc (.cells rgVr 156)) w.heap.size rgVr 156 := Blk.new _ _ _ _ rfl
    have g0 := (Grew.refl w).alloc (.cells rgVr 156)
    replace hB := hB.alloc (.cells rgVr 156)
    generalize w.alloc (.cells rgVr 156) = w0 at *
    generalize w.heap.size = D at *
    have hne : D ≠ p := by omega
    have z0 := fun z : Over w0 => hB.rgO 8 (by decide) z
    have z1 := fun z : Over w0 => kG.overCell 1 (.int .i64 8) rfl z
    refine region_over (by kernel_rfl) (by kernel_rfl) ?_
    repeat (first | go_big_quiet_step (fail) | quiet_step (fail))
    refine wpQuiet_nil ?_
    intro z
    have kG1 := kG.over z
    have hB1 := hB.over z
    have g1 := g0.trans z.g
    clear z0 z1 kG hB g0
    generalize z.w = w1 at *
    go_upto_region 2 with fail
    have z1 := fun z : Over w1 => kG1.overCell 3 (.int .i64 10) rfl z
    refine region_over_tail 5 (by kernel_rfl) (by kernel_rfl) ?_
    simp only [List.take_succ_cons, List.take_zero, List.drop_succ_cons, List.drop_zero]
    repeat (first | go_big_quiet_step (fail) | quiet_step (fail))
    refine wpQuiet_nil ?_
    intro z
    have hB2 := hB1.over z
    have g2 := g1.trans z.g
    have c0 := hB2.rgC 10 (by decide)
    have f0 := hB2.free 10
    have HB2 := Lib.hid hB2
    clear z1 kG1 hB1 hB2 g1
    generalize z.w = w2 at *
    go_wp2_with fail
    go_end0
    exact ⟨rfl, HB2.out.rg (by decide) _, (Trn.of_grew g2).trans (Trn.set _ _ _ _)⟩
  · rw [if_neg hy]
    go_enter Tryz.func104, Tryz.ntmps104
    go_upto_region 1 with fail
    have kG : Blk (w.alloc (.cells rgVr 156)) w.heap.size rgVr 156 := Blk.new _ _ _ _ rfl
    have g0 := (Grew.refl w).alloc (.cells rgVr 156)
    replace hB := hB.alloc (.cells rgVr 156)
    generalize w.alloc (.cells rgVr 156) = w0 at *
    generalize w.heap.size = D at *
    have hne : D ≠ p := by omega
    have z0 := fun z : Over w0 => hB.rgO 8 (by decide) z
    have z1 := fun z : Over w0 => kG.overCell 1 (.int .i64 8) rfl z
    refine region_over (by kernel_rfl) (by kernel_rfl) ?_
    repeat (first | go_big_quiet_step (fail) | quiet_step (fail))
    refine wpQuiet_nil ?_
    intro z
    have kG1 := kG.over z
    have hB1 := hB.over z
    have g1 := g0.trans z.g
    clear z0 z1 kG hB g0
    generalize z.w = w1 at *
    go_wp2_with fail
    go_end0
    exact ⟨rfl, hB1, Trn.of_grew g1⟩

/-! ### A descriptor -/
theorem getV_ltn {xs : List Int} (h : AreBytes xs) (n : Nat) (hn : xs.length ≤ n) : 0 ≤ getV xs false ∧ getV xs false < 2 ^ (8 * n) ∧ getV xs false < 18446744073709551616 := by
  have h1 := getTo_lt h (min xs.length 8) false (min xs.length 8)
  have h2 := pow_le_pow' (show 8 * min xs.length 8 ≤ 8 * n by omega)
  have h3 := getV_lt h false
  unfold getV at *
  omega
theorem andU_1 {x : Int} (h0 : 0 ≤ x) (h1 : x < 18446744073709551616) : (bits .and .u64 x 1 != 0) = bitB 1 x := by
  have := and_mask x 1 h0 h1 (by decide)
  rw [show (2 : Int) ^ 1 - 1 = 1 by decide, show (2 : Int) ^ 1 = 2 by decide] at this
  rw [this]
  unfold bitB
  rw [Int.ediv_one]
  rcases (by omega : x % 2 = 0 ∨ x % 2 = 1) with h | h <;> rw [h] <;> rfl
/-- Sixteen bytes as an array. -/
def dsA (xs : List Int) : Array Value := (xs.map (Value.int .u8)).toArray
theorem dsA_size (xs : List Int) : (dsA xs).size = xs.length := by simp [dsA]
theorem dsA_one (xs : List Int) : ((dsA xs).all fun x => x.oneCell') = true := by
  simp only [dsA, Array.all_eq_true_iff_forall_mem]
  intro x hx
  obtain ⟨y, _, rfl⟩ := List.mem_map.1 (by simpa using hx)
  rfl
theorem Blk.ds {w : World} {b : Nat} {xs : List Int} {T : TypeId} (h : Blk w b (dsA xs) T) (hx : AreBytes xs) (hl : xs.length = 16) (lo hi : Nat) (h1 : lo ≤ hi) (h2 : hi ≤ 16) : Buf w (.slice (some ⟨b, lo, none⟩) (hi - lo) (16 - lo)) (cutL xs lo hi) := by
  have hc := cutL_length h1 (by omega : hi ≤ xs.length)
  refine ⟨⟨_, _, by rw [hc], by omega, fun _ => ⟨b, lo, rfl, fun i hi' => ?_⟩⟩, hx.cut lo hi, by rw [hc]; unfold maxLen; omega⟩
  rw [hc] at hi'
  rw [cutL_getD hi', h.cell]
  simp [dsA, List.getD_eq_getElem?_getD, List.getElem?_eq_getElem (show lo + i < xs.length by omega)]
def parV (xs : List Int) (lo hi : Nat) : Int := getV (cutL xs lo hi) false
end Go.Proofs.YtgcfmijkggpemaaGreat
set_option maxRecDepth 4000
set_option linter.unusedVariables false
set_option linter.unusedSimpArgs false
namespace Go.Proofs.YtgcfmijkggpemaaGreat
open Go.RowKit

abbrev zeroN : Array Value := #[.int .i64 0, .int .i64 0, .int .i64 0, .int .u64 0, .int .i64 0, .int .i64 0, .int .i64 0, .int .u64 0, .int .i64 0, .int .i64 0, .int .i64 0, .int .i64 0, .int .i64 0, .slice none 0 0]
theorem ncA_one (c : Nat → Int) (a : Option Addr) (n k : Nat) : ((ncA c (.slice a n k)).all fun x => x.oneCell') = true := by simp [ncA, Value.oneCell']
theorem ld_nc {ops : Array Oper} {rest : List Oper} {o : Oper} {a : Act} {w : World} {Q : Exit → Act → World → Prop} (hgd : o.guard = none) (x : Operand) (ho : o.op = .load 34 x) (d : Option Tmp) (hd : o.dst = d) {g : Nat} {c : Nat → Int} {u : Value} {T : TypeId}
    (k : Blk w g (ncA c u) T) (hx : a.eval x = .pointer (some ⟨g, 0, none⟩)) (h : wpList Tryz.prog ops Q rest (a.put d (ncV c u)) w) : wpList Tryz.prog ops Q (o :: rest) a w := by
  subst hd
  exact wpList_load_row hgd _ x ho g hx T (ncA c u) (0, 0) _ k Tryz.underlying34 rfl ncInfo h
theorem var_nc {w : World} {g : Nat} {c : Nat → Int} {u : Value} {T : TypeId} (k : Blk w g (ncA c u) T) : (loadVar 34 ⟨g, 0, none⟩).run Tryz.prog w = .ok (ncV c u) w :=
  run_loadVar_row w g T _ (ncA c u) (0, 0) _ k Tryz.underlying34 rfl ncInfo
theorem Blk.setRow {w : World} {b : Nat} {old cs : Array Value} {T : TypeId} (h : Blk w b old T) : Blk (w.setRow b cs) b cs T := setRow_heap w b old cs T (0, 0) h
theorem st_nc {ops : Array Oper} {rest : List Oper} {o : Oper} {a : Act} {w : World} {Q : Exit → Act → World → Prop} (hgd : o.guard = none) (x y : Operand) (ho : o.op = .store 34 x y) (hd : o.dst = none) {g : Nat} (c : Nat → Int) {u : Value} {old : Array Value} {T : TypeId}
    (k : Blk w g old T) (hold : old.size = 14) (hx : a.eval x = .pointer (some ⟨g, 0, none⟩)) (hy : a.eval y = ncV c u) (hu : ∃ b n m, u = .slice b n m)
    (h : ∀ w', Blk w' g (ncA c u) T → Only w w' g → wpList Tryz.prog ops Q rest a w') : wpList Tryz.prog ops Q (o :: rest) a w := by
  obtain ⟨b, n, m, rfl⟩ := hu
  exact wpList_store_rowTo hgd _ x y ho hd g (ncA c _) hx hy T old k ncInfo hold (ncA_one c b n m) (h _ (Blk.setRow k) (Only.setRow _ _ _))
theorem step_st_nc {ops : Array Oper} {TT : Array Value} {o : Oper} {a : Act} {w : World} {K : Act → World → Prop} {Q : Exit → Act → World → Prop} {E : Prop} (hgd : o.guard = none) (x y : Operand) (ho : o.op = .store 34 x y) (hd : o.dst = none) {g : Nat} (c : Nat → Int) {u : Value} {old : Array Value} {T : TypeId}
    (k : Blk w g old T) (hold : old.size = 14) (hx : a.eval x = .pointer (some ⟨g, 0, none⟩)) (hy : a.eval y = ncV c u) (hu : ∃ b n m, u = .slice b n m)
    (h : ∀ w', Blk w' g (ncA c u) T → Only w w' g → K a w') : if Region.wanted o (yielded ops TT) = true then Oper.wp Tryz.prog o a w K Q else E := by
  have hw : Region.wanted o (yielded ops TT) = true := by simp [Region.wanted, hgd]
  rw [if_pos hw]
  obtain ⟨b, n, m, rfl⟩ := hu
  refine wp_store_row _ x y ho g (ncA c _) hx hy T old k ncInfo hold (ncA_one c b n m) ?_
  rw [hd]
  exact h _ (Blk.setRow k) (Only.setRow _ _ _)
theorem Row.only {w w' : World} {B g : Nat} {v : Value} {xs : List Int} {cs : Array Value} {T : TypeId} (h : Row w B v xs) (o : Only w w' g) (hX : Blk w g cs T) (hT : T ≠ 5) : Row w' B v xs := by
  refine ⟨h.1, ?_⟩
  rcases h.2 with h | ⟨b', cap, cur, e, hg, hh, r⟩
  · exact .inl h
  · refine .inr ⟨b', cap, cur, e, hg, ?_, r⟩
    have hne : b' ≠ g := by
      rintro rfl
      unfold Blk at hX
      rw [hX] at hh
      simp only [Option.some.injEq, Obj.cells.injEq] at hh
      exact hT hh.2.1
    rw [o.block b' hne]
    exact hh
/-- No cell of these is a byte. -/
def NoByte (cs : Array Value) : Prop := ∀ (k : Nat) (x : Int), cs[k]? ≠ some (.int .u8 x)
theorem Buf.only {w w' : World} {g : Nat} {v : Value} {xs : List Int} {cs : Array Value} {T : TypeId} (h : Buf w v xs) (o : Only w w' g) (hX : Blk w g cs T) (hc : NoByte cs) : Buf w' v xs := by
  obtain ⟨a', c', rfl, hc', ha⟩ := h.shape
  refine ⟨⟨a', c', rfl, hc', fun hx => ?_⟩, h.ok, h.len⟩
  obtain ⟨b, off, rfl, hb⟩ := ha hx
  refine ⟨b, off, rfl, fun i hi => ?_⟩
  have h1 := hb i hi
  by_cases he : b = g
  · subst he
    rw [hX.cell] at h1
    exact absurd h1 (hc _ _)
  · rw [← h1]
    exact World.cell?_of_block (o.block b he)
theorem Only.set (w : World) (g o : Nat) (v : Value) : Only w (w.setCell ⟨g, o, none⟩ v) g := ⟨rfl, rfl, rfl, by simp, fun k hk => Below.heap_setCell w ⟨g, o, none⟩ v k hk⟩
theorem Only.trn {w w' : World} {g : Nat} (h : Only w w' g) : Trn g w w' := ⟨h.os, h.tape, h.output, by rw [h.size]; exact Nat.le_refl _, fun k _ hne => h.block k hne⟩
theorem Only.trans {w w' w'' : World} {g : Nat} (h : Only w w' g) (k : Only w' w'' g) : Only w w'' g := ⟨k.os.trans h.os, k.tape.trans h.tape, k.output.trans h.output, k.size.trans h.size, fun b hb => (k.block b hb).trans (h.block b hb)⟩
/-- Of what stood nothing but block p turns, also where a block of the call's own is written. -/
theorem Trn.only {p g : Nat} {W w w' : World} (t : Trn p W w) (o : Only w w' g) (hg : W.heap.size ≤ g) : Trn p W w' :=
  ⟨o.os.trans t.os, o.tape.trans t.tape, o.output.trans t.output, by rw [o.size]; exact t.size, fun k hk hne => (o.block k (by omega)).trans (t.block k hk hne)⟩
theorem nb_one (v : Value) (h : ∀ x, v ≠ .int .u8 x) : NoByte #[v]
  | 0, x => by simpa using h x
  | k + 1, _ => by simp
theorem nb_rg (c : Nat → Int) : NoByte (rgA c) := fun k x => by
  by_cases hk : k < 15
  · rw [rgA_at c hk]; simp
  · rw [Array.getElem?_eq_none (by rw [rgA_size]; omega)]; simp
theorem nb_nc (c : Nat → Int) (a : Option Addr) (n m : Nat) : NoByte (ncA c (.slice a n m)) := fun k x => by
  match k with
  | 0 => exact fun h => by cases h
  | 1 => exact fun h => by cases h
  | 2 => exact fun h => by cases h
  | 3 => exact fun h => by cases h
  | 4 => exact fun h => by cases h
  | 5 => exact fun h => by cases h
  | 6 => exact fun h => by cases h
  | 7 => exact fun h => by cases h
  | 8 => exact fun h => by cases h
  | 9 => exact fun h => by cases h
  | 10 => exact fun h => by cases h
  | 11 => exact fun h => by cases h
  | 12 => exact fun h => by cases h
  | 13 => exact fun h => by cases h
  | k + 14 => rw [Array.getElem?_eq_none (by rw [ncA_size]; omega)]; simp

/-! ### The address -/
def macL (c : Nat → Int) : List Int := putL (c 13) 4 false ++ putL (c 14) 2 false
theorem macL_length (c : Nat → Int) : (macL c).length = 6 := by simp [macL, putL_length]
theorem macL_ok (c : Nat → Int) : AreBytes (macL c) := fun x hx => by
  rcases List.mem_append.1 hx with h | h
  · exact putL_bytes _ _ _ x h
  · exact putL_bytes _ _ _ x h
/-- Numbers 13 and 14 are the address. -/
def MacIs (c : Nat → Int) (m : List Int) : Prop := m.length = 6 ∧ c 13 = getV (cutL m 0 4) false ∧ c 14 = getV (cutL m 4 6) false
theorem MacIs.mac {c : Nat → Int} {m : List Int} (h : MacIs c m) (hm : AreBytes m) : macL c = m := by
  obtain ⟨hl, h1, h2⟩ := h
  unfold macL
  have e1 := putL_getV (hm.cut 0 4) (by rw [cutL_length (by decide) (by omega)]; decide)
  have e2 := putL_getV (hm.cut 4 6) (by rw [cutL_length (by decide) (by omega)]; decide)
  rw [cutL_length (by decide) (by omega)] at e1 e2
  rw [h1, h2, e1, e2]
  unfold cutL
  rw [List.drop_zero, List.take_of_length_le (l := m.drop 4) (by rw [List.length_drop]; omega)]
  exact List.take_append_drop 4 m
theorem mac_c {c : Nat → Int} {p : Nat} {w : World} (hB : Blk w p (rgA c) 165) (h0 : 0 ≤ c 13) (h1 : c 13 < 4294967296) (h2 : 0 ≤ c 14) (h3 : c 14 < 4294967296) : Calls Tryz.prog 105 #[.pointer (some ⟨p, 0, none⟩)] w fun e w' => ∃ a k, e = .returned (.slice a 6 k) ∧ Hid (Row w' w.heap.size (.slice a 6 k) (macL c)) ∧ Grew w w' := by
  have hP1 := Lib.hid (put_in (c 13) 4 4 false h0 (by omega) (by decide) (by decide))
  have hP2 := Lib.hid (put_in (c 14) 2 2 false h2 (by omega) (by decide) (by decide))
  have hw1 : IntKind.u64.wrap (c 13) = c 13 := IntWalk.u64_in _ (by omega)
  have hw2 : IntKind.u64.wrap (c 14) = c 14 := IntWalk.u64_in _ (by omega)
  have hlen := Lib.hid (macL_length c)
  have hL : Hid (macL c = putL (c 13) 4 false ++ putL (c 14) 2 false) := Lib.hid rfl
  clear h0 h1 h2 h3
  go_enter Tryz.func105, Tryz.ntmps105
  have c0 := hB.rgC 13 (by decide)
  go_upto_region 1 with fail
  go_wp2_with fail
  refine (hP1.out _).mono ?_
  rintro e w1 ⟨rfl, o1, g1⟩
  have HR1 := Lib.hid (row_of_put o1)
  have hB1 := hB.grew g1
  clear o1 c0
  have c0 := hB1.rgC 14 (by decide)
  go_wp2_with fail
  refine (hP2.out _).mono ?_
  rintro e w2 ⟨rfl, o2, g2⟩
  have HR2 := Lib.hid ((row_of_put o2).buf (putL_bytes _ _ _))
  have HR1' := Lib.hid (HR1.out.grew g2)
  have g12 : Grew w w2 := Grew.trans g1 g2
  clear o2 c0 hB1 g2 g1
  go_wp2_with (refine wpList_append_b (W := w) rfl (.tmp 17) (.tmp 18) rfl g12 HR1'.out HR2.out (by rfl) (by rfl) (by rw [putL_length, putL_length]; decide) ?_; intro v3 w3 HR3 g3 q3; clear q3)
  rw [← hL.out] at HR3
  obtain ⟨a, k, ev, _, _⟩ := (HR3.out.buf (macL_ok c)).shape
  rw [hlen.out] at ev
  subst ev
  go_ret
  exact ⟨a, k, rfl, HR3, g3⟩
def rgOk (c : Nat → Int) : Prop := ∀ i, i < 15 → 0 ≤ c i ∧ c i < 4294967296
end Go.Proofs.YtgcfmijkggpemaaGreat
set_option maxRecDepth 4000
set_option linter.unusedVariables false
set_option linter.unusedSimpArgs false
namespace Go.Proofs.YtgcfmijkggpemaaGreat
open Go.RowKit

abbrev zeroD : List Int := [0, 0, 0, 0, 0, 0, 0, 0, 0, 0, 0, 0, 0, 0, 0, 0]
theorem Blk.only' {w w' : World} {g b : Nat} {cs : Array Value} {T : TypeId} (h : Blk w b cs T) (o : Only w w' g) (hb : b ≠ g) : Blk w' b cs T := h.only o hb
theorem bytesV_16 {xs : List Int} {x : Int} (h : insideV xs.length x 16 = true) : (bytesV xs x 16).length = 16 := by
  obtain ⟨lo, k, rfl, hk, hlo⟩ := insideV_no h
  obtain rfl : k = 16 := by omega
  rw [show (16 : Int) = ((16 : Nat) : Int) from rfl, bytesV_in hlo, cutL_length (by omega) hlo]
  omega
/-- What a broken ring makes. -/
def broket (c : Nat → Int) : Nat → Int := failC (upd c 0 (c 0 - 1))
/-- What a broken ring makes. -/
def broker (c : Nat → Int) : Nat → Int := failC (upd c 0 (c 0 - 2))
end Go.Proofs.YtgcfmijkggpemaaGreat
set_option maxRecDepth 4000
set_option linter.unusedVariables false
set_option linter.unusedSimpArgs false
namespace Go.Proofs.YtgcfmijkggpemaaGreat
open Go.RowKit

theorem u32_in {x : Int} (h : 0 ≤ x ∧ x < 4294967296) : IntKind.u32.wrap x = x := by simp [IntKind.wrap, IntKind.bits, IntKind.signed]; omega
set_option maxRecDepth 100000 in
set_option maxHeartbeats 4000000 in
theorem ncTaken_c {c : Nat → Int} {m : List Int} {a : Option Addr} {k : Nat} {w : World} (hM : MacIs c m) (hb : rgOk c) (hB : Buf w (.slice a 6 k) m) : Calls Tryz.prog 100 #[ncV c (.slice a 6 k)] w fun e w' => ∃ p, e = .returned (.pointer (some ⟨p, 0, none⟩)) ∧ w.heap.size ≤ p ∧ Blk w' p (rgA c) 165 ∧ Grew w w' := by
  have hl := hM.1
  obtain ⟨a1, k1, hc1, q1, q2, r1, q3⟩ := hB.run_cut (lo := 0) (hi := 4) (by omega) (by omega)
  obtain ⟨a2, k2, hc2, q4, q5, q6, r2⟩ := hB.run_cut (lo := 4) (hi := 6) (by omega) (by omega)
  have hr1 : ∀ w', (Instr.sliceAt 22 (.slice a 6 k) none (some (.int .i64 4)) none).run Tryz.prog w' = .ok (.slice a1 4 k1) w' := fun w' => r1 rfl .i64 w'
  have hr2 : ∀ w', (Instr.sliceAt 22 (.slice a 6 k) (some (.int .i64 4)) none none).run Tryz.prog w' = .ok (.slice a2 2 k2) w' := fun w' => r2 hl.symm .i64 w'
  clear r1 r2 q1 q2 q3 q4 q5 q6
  have hg1 : ∀ w', Grew w w' → Calls Tryz.prog 88 #[.slice a1 4 k1, .bool false] w' fun e w'' => e = .returned (.int .u64 (c 13)) ∧ w' = w'' := fun w' g => by
    have := get_c false (hB.ok.cut 0 4) (by rw [cutL_length (by decide) (by omega)]; decide) w' ((hc1.grew g).bytes)
    rw [← hM.2.1] at this
    exact this.mono fun _ _ ⟨x, y⟩ => ⟨x, y.symm⟩
  have hg2 : ∀ w', Grew w w' → Calls Tryz.prog 88 #[.slice a2 2 k2, .bool false] w' fun e w'' => e = .returned (.int .u64 (c 14)) ∧ w' = w'' := fun w' g => by
    have := get_c false (hB.ok.cut 4 6) (by rw [cutL_length (by decide) (by omega)]; decide) w' ((hc2.grew g).bytes)
    rw [← hM.2.2] at this
    exact this.mono fun _ _ ⟨x, y⟩ => ⟨x, y.symm⟩
  have HG1 := Lib.hid hg1
  have HG2 := Lib.hid hg2
  have hw0 : IntKind.u32.wrap (c 0) = c 0 := u32_in (hb 0 (by decide))
  have hw1 : IntKind.u32.wrap (c 1) = c 1 := u32_in (hb 1 (by decide))
  have hw2 : IntKind.u32.wrap (c 2) = c 2 := u32_in (hb 2 (by decide))
  have hw3 : IntKind.u32.wrap (c 3) = c 3 := u32_in (hb 3 (by decide))
  have hw4 : IntKind.u32.wrap (c 4) = c 4 := u32_in (hb 4 (by decide))
  have hw5 : IntKind.u32.wrap (c 5) = c 5 := u32_in (hb 5 (by decide))
  have hw6 : IntKind.u32.wrap (c 6) = c 6 := u32_in (hb 6 (by decide))
  have hw7 : IntKind.u32.wrap (c 7) = c 7 := u32_in (hb 7 (by decide))
  have hw8 : IntKind.u32.wrap (c 8) = c 8 := u32_in (hb 8 (by decide))
  have hw9 : IntKind.u32.wrap (c 9) = c 9 := u32_in (hb 9 (by decide))
  have hw10 : IntKind.u32.wrap (c 10) = c 10 := u32_in (hb 10 (by decide))
  have hw11 : IntKind.u32.wrap (c 11) = c 11 := u32_in (hb 11 (by decide))
  have hw12 : IntKind.u32.wrap (c 12) = c 12 := u32_in (hb 12 (by decide))
  have hw13 : IntKind.u32.wrap (c 13) = c 13 := u32_in (hb 13 (by decide))
  have hw14 : IntKind.u32.wrap (c 14) = c 14 := u32_in (hb 14 (by decide))
  clear hg1 hg2 hc1 hc2 hM hb hl hB
  go_enter Tryz.func100, Tryz.ntmps100
  go_upto_region 1 with fail
  have kN : Blk (w.alloc (.cells (ncA c (.slice a 6 k)) 34)) w.heap.size (ncA c (.slice a 6 k)) 34 := Blk.new _ _ _ _ rfl
  have g0 : Grew w (w.alloc (.cells (ncA c (.slice a 6 k)) 34)) := (Grew.refl w).alloc _
  generalize (w.alloc (.cells (ncA c (.slice a 6 k)) 34)) = w0 at *
  have hG : w.heap.size ≤ w0.heap.size := g0.size
  generalize w.heap.size = G at *
  have z0 := fun z : Over w0 => kN.overCell 0 (.int .i64 (c 0)) rfl z
  have z1 := fun z : Over w0 => kN.overCell 1 (.int .i64 (c 1)) rfl z
  have z2 := fun z : Over w0 => kN.overCell 2 (.int .i64 (c 2)) rfl z
  have z3 := fun z : Over w0 => kN.overCell 3 (.int .u64 (c 3)) rfl z
  have z4 := fun z : Over w0 => kN.overCell 4 (.int .i64 (c 4)) rfl z
  have z5 := fun z : Over w0 => kN.overCell 5 (.int .i64 (c 5)) rfl z
  have z6 := fun z : Over w0 => kN.overCell 6 (.int .i64 (c 6)) rfl z
  have z7 := fun z : Over w0 => kN.overCell 7 (.int .u64 (c 7)) rfl z
  have z8 := fun z : Over w0 => kN.overCell 8 (.int .i64 (c 8)) rfl z
  have z9 := fun z : Over w0 => kN.overCell 9 (.int .i64 (c 9)) rfl z
  have z10 := fun z : Over w0 => kN.overCell 10 (.int .i64 (c 10)) rfl z
  have z11 := fun z : Over w0 => kN.overCell 11 (.int .i64 (c 11)) rfl z
  have z12 := fun z : Over w0 => kN.overCell 12 (.int .i64 (c 12)) rfl z
  have z13 := fun z : Over w0 => kN.overCell 13 (.slice a 6 k) rfl z
  refine region_over_tail 50 (by kernel_rfl) (by kernel_rfl) ?_
  simp only [List.take_succ_cons, List.take_zero, List.drop_succ_cons, List.drop_zero]
  repeat (first | go_big_quiet_step ((first | (go_at_call 88; first | with_reducible exact over_same (HG1.out _ (g0.trans (Over.g _))) | with_reducible exact over_same (HG2.out _ (g0.trans (Over.g _)))))) | quiet_step ((first | (go_at_call 88; first | with_reducible exact over_same (HG1.out _ (g0.trans (Over.g _))) | with_reducible exact over_same (HG2.out _ (g0.trans (Over.g _)))))))
  refine wpQuiet_nil ?_
  intro z
  have g1 := g0.trans z.g
  have hz := z.g.size
  clear z0 z1 z2 z3 z4 z5 z6 z7 z8 z9 z10 z11 z12 z13
  generalize z.w = w1 at *
  go_wp2_with fail
  go_ret
  exact ⟨_, rfl, g1.size, Blk.new w1 (rgA c) 165 _ rfl, g1.alloc _⟩
end Go.Proofs.YtgcfmijkggpemaaGreat
set_option maxRecDepth 4000
set_option linter.unusedVariables false
set_option linter.unusedSimpArgs false
namespace Go.Proofs.YtgcfmijkggpemaaGreat
open Go.RowKit

/-- Flags without bit 0, and a status. -/
def bothV (ds : List Int) (st : Int) : Int := bits .or .u64 (bits .andNot .u64 (getV (cutL ds 10 12) false) 1) (st * 65536)
def headt (c : Nat → Int) : Nat → Int := upd c 5 ((c 5 + 1) % c 4)
def headr (c : Nat → Int) : Nat → Int := upd c 9 ((c 9 + 1) % c 8)
theorem load_ram {w : World} {g : Nat} {v : Value} (h : w.cell? ⟨g, 0, none⟩ = some v) (hv : ∃ a n k, v = .slice a n k) : (loadVar 24 ⟨g, 0, none⟩).run Tryz.prog w = .ok (.agg #[v]) w := by
  obtain ⟨a, n, k, rfl⟩ := hv
  go_simp
end Go.Proofs.YtgcfmijkggpemaaGreat
set_option maxRecDepth 4000
set_option linter.unusedVariables false
set_option linter.unusedSimpArgs false
namespace Go.Proofs.YtgcfmijkggpemaaGreat
open Go.RowKit

theorem strOfNums_inj {xs ys : List Int} (hx : AreBytes xs) (hy : AreBytes ys) (h1 : (xs.map fun n => UInt8.ofNat n.toNat) = ys.map fun n => UInt8.ofNat n.toNat) : xs = ys := by
  have k : ∀ zs : List Int, AreBytes zs → (zs.map fun n => UInt8.ofNat n.toNat).map (fun u => (u.toNat : Int)) = zs := fun zs h => by
    rw [List.map_map]
    conv => rhs; rw [← List.map_id zs]
    apply List.map_congr_left
    intro x hx
    have := h x hx
    simp only [Function.comp, id]
    rw [UInt8.toNat_ofNat']
    omega
  rw [← k xs hx, h1, k ys hy]
def sameB (xs ys : List Int) : Bool := decide (xs = ys)
theorem sameB_str {xs ys : List Int} (hx : AreBytes xs) (hy : AreBytes ys) : ((strOfNums xs).toList == (strOfNums ys).toList) = sameB xs ys := by
  unfold sameB
  rw [Lib.strOfNums_toList, Lib.strOfNums_toList]
  by_cases h : xs = ys
  · subst h; simp
  · rw [decide_eq_false h]
    have : Lib.bytesOf xs ≠ Lib.bytesOf ys := fun e => h (strOfNums_inj hx hy e)
    simpa using this
def allFF (xs : List Int) : Bool := xs.all fun x => x == 255
theorem allFF_no {xs : List Int} {k : Nat} (hk : k < xs.length) (h : (xs.getD k 0 != 255) = true) : allFF xs = false := by
  unfold allFF
  rw [List.all_eq_false]
  refine ⟨xs[k], List.getElem_mem hk, ?_⟩
  rw [List.getD_eq_getElem?_getD, List.getElem?_eq_getElem hk] at h
  simpa using h
theorem allFF_yes {xs : List Int} (h : ∀ j, j < xs.length → (xs.getD j 0 != 255) = false) : allFF xs = true := by
  unfold allFF
  rw [List.all_eq_true]
  intro x hx
  obtain ⟨i, hi, rfl⟩ := List.getElem_of_mem hx
  have := h i hi
  rw [List.getD_eq_getElem?_getD, List.getElem?_eq_getElem hi] at this
  simpa using this
def frameB (n : Int) : Bool := decide (14 ≤ n) && decide (n ≤ 1514)
/-- Is a frame for the controller of these registers? -/
def takesB (c : Nat → Int) (xs : List Int) : Bool := frameB xs.length && (bitB 4 (c 0) || sameB (cutL xs 0 6) (macL c) || allFF (cutL xs 0 6))
end Go.Proofs.YtgcfmijkggpemaaGreat
set_option maxRecDepth 4000
set_option linter.unusedVariables false
set_option linter.unusedSimpArgs false
namespace Go.Proofs.YtgcfmijkggpemaaGreat
open Go.RowKit

theorem riInfo : (Tryz.prog.info? 156).map (·.size) = some 5 := by kernel_rfl
theorem st_ri {ops : Array Oper} {rest : List Oper} {o : Oper} {a : Act} {w : World} {Q : Exit → Act → World → Prop} (hgd : o.guard = none) (x y : Operand) (ho : o.op = .store 156 x y) (hd : o.dst = none) {g : Nat} (cs : Array Value) (h5 : cs.size = 5) (h1 : (cs.all fun x => x.oneCell') = true) {old : Array Value} {T : TypeId}
    (k : Blk w g old T) (hold : old.size = 5) (hx : a.eval x = .pointer (some ⟨g, 0, none⟩)) (hy : a.eval y = .agg cs)
    (h : ∀ w', Blk w' g cs T → Only w w' g → wpList Tryz.prog ops Q rest a w') : wpList Tryz.prog ops Q (o :: rest) a w :=
  wpList_store_rowTo hgd _ x y ho hd g cs hx hy T old k (by rw [h5]; exact riInfo) (by rw [hold, h5]) h1 (h _ (Blk.setRow k) (Only.setRow _ _ _))
theorem ld_ri {ops : Array Oper} {rest : List Oper} {o : Oper} {a : Act} {w : World} {Q : Exit → Act → World → Prop} (hgd : o.guard = none) (x : Operand) (ho : o.op = .load 156 x) (d : Option Tmp) (hd : o.dst = d) {g : Nat} {cs : Array Value} (h5 : cs.size = 5) {T : TypeId}
    (k : Blk w g cs T) (hx : a.eval x = .pointer (some ⟨g, 0, none⟩)) (h : wpList Tryz.prog ops Q rest (a.put d (.agg cs)) w) : wpList Tryz.prog ops Q (o :: rest) a w := by
  subst hd
  exact wpList_load_row hgd _ x ho g hx T cs (0, 0) _ k Tryz.underlying156 rfl (by rw [h5]; exact riInfo) h
theorem lw_ri {ops : Array Oper} {rest : List Oper} {o : Oper} {a : Act} {w : World} {Q : Exit → Act → World → Prop} (hw : Region.wanted o (yielded ops a.tmps) = true) (x : Operand) (ho : o.op = .load 156 x) (d : Option Tmp) (hd : o.dst = d) {g : Nat} {cs : Array Value} (h5 : cs.size = 5) {T : TypeId}
    (k : Blk w g cs T) (hx : a.eval x = .pointer (some ⟨g, 0, none⟩)) (h : wpList Tryz.prog ops Q rest (a.put d (.agg cs)) w) : wpList Tryz.prog ops Q (o :: rest) a w := by
  subst hd
  exact BigFrame.wpList_want hw fun K hK => wp_load_row _ x ho g hx T cs (0, 0) _ k Tryz.underlying156 rfl (by rw [h5]; exact riInfo) (hK _ _ h)
theorem rgVt_one : (rgVt.all fun x => x.oneCell') = true := by simp [rgVt, Value.oneCell']
theorem rgVr_one : (rgVr.all fun x => x.oneCell') = true := by simp [rgVr, Value.oneCell']
theorem var_ri {w : World} {g : Nat} {cs : Array Value} (h5 : cs.size = 5) {T : TypeId} (k : Blk w g cs T) : (loadVar 156 ⟨g, 0, none⟩).run Tryz.prog w = .ok (.agg cs) w :=
  run_loadVar_row w g T _ cs (0, 0) _ k Tryz.underlying156 rfl (by rw [h5]; exact riInfo)
theorem yl_ri {ops : Array Oper} {S : World → Prop} {o : Oper} {a : Act} {x : Operand} {g : Nat} {cs : Array Value} {T : TypeId} (h5 : cs.size = 5) (ho : o.op = .load 156 x) (hw : Region.wanted o (yielded ops a.tmps) = true) (hx : a.eval x = .pointer (some ⟨g, 0, none⟩)) (k : ∀ w, S w → Blk w g cs T) :
    YieldsIf Tryz.prog ops S o (.agg cs) a := by
  refine Or.inl ⟨hw, fun w hSw => ?_⟩
  unfold execOp
  simp only [ho, hx, Instr.loadAt, Instr.sureAddr, Sem.run_bind, Sem.run_pure, Result.andThen_ok, var_ri h5 (k w hSw)]
theorem yl_nc {ops : Array Oper} {S : World → Prop} {o : Oper} {a : Act} {x : Operand} {g : Nat} {c : Nat → Int} {u : Value} {T : TypeId} (ho : o.op = .load 34 x) (hw : Region.wanted o (yielded ops a.tmps) = true) (hx : a.eval x = .pointer (some ⟨g, 0, none⟩)) (k : ∀ w, S w → Blk w g (ncA c u) T) :
    YieldsIf Tryz.prog ops S o (ncV c u) a := by
  refine Or.inl ⟨hw, fun w hSw => ?_⟩
  unfold execOp
  simp only [ho, hx, Instr.loadAt, Instr.sureAddr, Sem.run_bind, Sem.run_pure, Result.andThen_ok, var_nc (k w hSw)]
/-! ### Memory of its own -/
theorem Clone_c {v : Value} {xs : List Int} (hl : xs.length ≤ 140737488355328) {w : World} (hb : Buf w v xs) :
    Calls Tryz.prog 43 #[v] w fun e w' => ∃ a c, e = .returned (.slice a xs.length c) ∧ Hid (Row w' w.heap.size (.slice a xs.length c) xs) ∧ Grew w w' := by
  obtain ⟨a, c, rfl, hc, ha⟩ := hb.shape
  have HB := Lib.hid hb
  rcases a with _ | ad
  · have hnil := fun w => Lib.run_eql_slice_nil (P := Tryz.prog) w 22 5 none 0 c 0 0 Tryz.underlying22
    have hx : xs = [] := by
      by_cases h : xs = []
      · exact h
      · obtain ⟨_, _, e, _⟩ := ha h
        cases e
    subst hx
    clear hb ha hc
    go_enter Tryz.func43, Tryz.ntmps43
    go_wp2_with fail
    go_ret
    exact ⟨none, 0, rfl, Lib.hid (Row.nil _ _), Grew.refl _⟩
  · have hnil := fun w => Lib.run_eql_slice_nil (P := Tryz.prog) w 22 5 (some ad) xs.length c 0 0 Tryz.underlying22
    clear ha hb
    go_enter Tryz.func43, Tryz.ntmps43
    go_wp2_with (refine wpList_append_b (W := w) rfl (.tmp 5) (.tmp 6) rfl (by exact (Grew.refl w).alloc _) (Row.lit w w.heap.size (Nat.le_refl _) #[] [] rfl (Nat.zero_le _) _ rfl 0 rfl) (HB.out.grew ((Grew.refl w).alloc _)) (by rfl) (by rfl) (by simpa using hl) ?_; intro v1 w1 HR1 g1 q1; clear q1; have HB1 := Lib.hid (HR1.out.buf HB.out.ok); obtain ⟨ao, co, eo, _, _⟩ := HB1.out.shape; subst eo)
    go_ret
    exact ⟨_, _, rfl, Lib.hid HR1.out, g1⟩
end Go.Proofs.YtgcfmijkggpemaaGreat
set_option maxRecDepth 4000
set_option linter.unusedVariables false
set_option linter.unusedSimpArgs false
namespace Go.Proofs.YtgcfmijkggpemaaGreat
open Go.RowKit

/-- The numbers of a controller that may be. -/
structure ROk (c : Nat → Int) : Prop where
  r0 : 0 ≤ c 0 ∧ c 0 < 8
  r1 : 0 ≤ c 1 ∧ c 1 < 16
  r2 : 0 ≤ c 2 ∧ c 2 < 16
  r3 : 0 ≤ c 3 ∧ c 3 < 4294967296
  r4 : 1 ≤ c 4 ∧ c 4 ≤ 64
  r5 : 0 ≤ c 5 ∧ c 5 < c 4
  r6 : 0 ≤ c 6 ∧ c 6 < c 4
  r7 : 0 ≤ c 7 ∧ c 7 < 4294967296
  r8 : 1 ≤ c 8 ∧ c 8 ≤ 64
  r9 : 0 ≤ c 9 ∧ c 9 < c 8
  r10 : 0 ≤ c 10 ∧ c 10 < c 8
  r11 : 0 ≤ c 11 ∧ c 11 ≤ 2147483648
  r12 : 0 ≤ c 12 ∧ c 12 ≤ 2147483648
  r13 : 0 ≤ c 13 ∧ c 13 < 4294967296
  r14 : 0 ≤ c 14 ∧ c 14 < 4294967296
theorem ROk.rg {c : Nat → Int} (h : ROk c) : rgOk c := fun i hi => by
  have h4 := h.r4
  have h8 := h.r8
  match i, hi with
  | 0, _ => exact (by have h' := h.r0; omega)
  | 1, _ => exact (by have h' := h.r1; omega)
  | 2, _ => exact (by have h' := h.r2; omega)
  | 3, _ => exact (by have h' := h.r3; omega)
  | 4, _ => exact (by have h' := h.r4; omega)
  | 5, _ => exact (by have h' := h.r5; omega)
  | 6, _ => exact (by have h' := h.r6; omega)
  | 7, _ => exact (by have h' := h.r7; omega)
  | 8, _ => exact (by have h' := h.r8; omega)
  | 9, _ => exact (by have h' := h.r9; omega)
  | 10, _ => exact (by have h' := h.r10; omega)
  | 11, _ => exact (by have h' := h.r11; omega)
  | 12, _ => exact (by have h' := h.r12; omega)
  | 13, _ => exact (by have h' := h.r13; omega)
  | 14, _ => exact (by have h' := h.r14; omega)
def atT (c : Nat → Int) : Int := c 3 + 16 * c 5
def atR (c : Nat → Int) : Int := c 7 + 16 * c 9
def adrV (ds : List Int) : Int := getV (cutL ds 0 8) false
def lenV (ds : List Int) : Int := getV (cutL ds 8 10) false
def ownB (ds : List Int) : Bool := bitB 1 (getV (cutL ds 10 12) false)
/-- What a call leaves: the registers, memory, the frame, and whether it was done. -/
structure SR where
  c : Nat → Int
  xs : List Int
  f : List Int
  b : Bool
def sendR (c : Nat → Int) (xs : List Int) : SR :=
  if waitst c then
    if insideV xs.length (atT c) 16 then
      if ownB (bytesV xs (atT c) 16) then
        if insideV xs.length (adrV (bytesV xs (atT c) 16)) (lenV (bytesV xs (atT c) 16)) && frameB (lenV (bytesV xs (atT c) 16)) then
          ⟨headt (upd c 1 (orB 1 (c 1))), writeV xs (atT c + 10) 4 (bothV (bytesV xs (atT c) 16) 1), bytesV xs (adrV (bytesV xs (atT c) 16)) (lenV (bytesV xs (atT c) 16)), true⟩
        else ⟨headt (failC c), writeV xs (atT c + 10) 4 (bothV (bytesV xs (atT c) 16) 2), [], true⟩
      else ⟨c, xs, [], false⟩
    else ⟨broket c, xs, [], true⟩
  else ⟨c, xs, [], false⟩
theorem parts_lt {ds : List Int} (h : AreBytes ds) (h16 : ds.length = 16) : (0 ≤ adrV ds ∧ adrV ds < 18446744073709551616) ∧ (0 ≤ lenV ds ∧ lenV ds < 65536) ∧ (0 ≤ getV (cutL ds 10 12) false ∧ getV (cutL ds 10 12) false < 65536) := by
  have h1 := getV_ltn (h.cut 0 8) 8 (by rw [cutL_length (by decide) (by omega)]; decide)
  have h2 := getV_ltn (h.cut 8 10) 2 (by rw [cutL_length (by decide) (by omega)]; decide)
  have h3 := getV_ltn (h.cut 10 12) 2 (by rw [cutL_length (by decide) (by omega)]; decide)
  have e2 : getV (cutL ds 8 10) false < 65536 := h2.2.1
  have e3 : getV (cutL ds 10 12) false < 65536 := h3.2.1
  exact ⟨⟨h1.1, h1.2.2⟩, ⟨h2.1, e2⟩, ⟨h3.1, e3⟩⟩
theorem or_shl (f s : Int) (h0 : 0 ≤ f) (h1 : f < 65536) (h2 : 0 ≤ s) (h3 : s < 256) : bits .or .u64 f (s * 65536) = f + s * 65536 := or_add f s 16 h0 (by rw [show (2 : Int) ^ 16 = 65536 by decide]; exact h1) h2 (by rw [show (2 : Int) ^ 16 = 65536 by decide]; omega)
theorem andNot_1 {x : Int} (h0 : 0 ≤ x) (h1 : x < 18446744073709551616) : bits .andNot .u64 x 1 = x - x % 2 := by
  obtain ⟨n, rfl⟩ := Int.eq_ofNat_of_zero_le h0
  have e : bits .andNot .u64 (n : Int) 1 = ((n - n % 2 : Nat) : Int) := by
    rw [show (1 : Int) = ((1 : Nat) : Int) from rfl, u64_andNot_nat n 1 (by omega) (by decide)]
    congr 1
    apply Nat.eq_of_testBit_eq
    intro i
    rw [Nat.testBit_and]
    cases i with
    | zero =>
      rw [Nat.testBit_zero, Nat.testBit_zero, Nat.testBit_zero]
      rw [show (18446744073709551615 - 1) % 2 = 0 by decide, show (n - n % 2) % 2 = 0 by omega]
      simp
    | succ i =>
      rw [Nat.testBit_succ, Nat.testBit_succ, Nat.testBit_succ, show (18446744073709551615 - 1) / 2 = 2 ^ 63 - 1 by decide, show (n - n % 2) / 2 = n / 2 by omega, Nat.testBit_two_pow_sub_one]
      by_cases hi : i < 63
      · simp [hi]
      · rw [Nat.testBit_lt_two_pow (x := n / 2) (i := i) (Nat.lt_of_lt_of_le (show n / 2 < 2 ^ 63 by omega) (Nat.pow_le_pow_right (by decide) (by omega)))]
        simp
  rw [e]; omega
theorem bothV_eq {ds : List Int} (h : AreBytes ds) (h16 : ds.length = 16) (st : Int) (h0 : 0 ≤ st) (h1 : st < 256) : bothV ds st = getV (cutL ds 10 12) false - getV (cutL ds 10 12) false % 2 + st * 65536 := by
  have hf := (parts_lt h h16).2.2
  unfold bothV
  rw [andNot_1 hf.1 (by omega), or_shl _ _ (by omega) (by omega) h0 h1]
theorem bothV_lt {ds : List Int} (h : AreBytes ds) (h16 : ds.length = 16) (st : Int) (h0 : 0 ≤ st) (h1 : st < 256) : 0 ≤ bothV ds st ∧ bothV ds st < 18446744073709551616 := by
  have hf := (parts_lt h h16).2.2
  rw [bothV_eq h h16 st h0 h1]
  omega
theorem ROk.c1 {c : Nat → Int} (h : ROk c) {v : Int} (hv : 0 ≤ v ∧ v < 16) : ROk (upd c 1 v) := ⟨h.r0, hv, h.r2, h.r3, h.r4, h.r5, h.r6, h.r7, h.r8, h.r9, h.r10, h.r11, h.r12, h.r13, h.r14⟩
theorem ROk.c0 {c : Nat → Int} (h : ROk c) {v : Int} (hv : 0 ≤ v ∧ v < 8) : ROk (upd c 0 v) := ⟨hv, h.r1, h.r2, h.r3, h.r4, h.r5, h.r6, h.r7, h.r8, h.r9, h.r10, h.r11, h.r12, h.r13, h.r14⟩
theorem ROk.c11 {c : Nat → Int} (h : ROk c) : ROk (cntC 11 c) := ⟨h.r0, h.r1, h.r2, h.r3, h.r4, h.r5, h.r6, h.r7, h.r8, h.r9, h.r10, (by have := h.r11; show 0 ≤ min (c 11 + 1) 2147483648 ∧ min (c 11 + 1) 2147483648 ≤ 2147483648; omega), h.r12, h.r13, h.r14⟩
theorem ROk.c12 {c : Nat → Int} (h : ROk c) : ROk (cntC 12 c) := ⟨h.r0, h.r1, h.r2, h.r3, h.r4, h.r5, h.r6, h.r7, h.r8, h.r9, h.r10, h.r11, (by have := h.r12; show 0 ≤ min (c 12 + 1) 2147483648 ∧ min (c 12 + 1) 2147483648 ≤ 2147483648; omega), h.r13, h.r14⟩
theorem ROk.fail {c : Nat → Int} (h : ROk c) : ROk (failC c) := h.c12.c1 (orB_lt (by decide) h.r1.1 h.r1.2)
theorem ROk.drop {c : Nat → Int} (h : ROk c) : ROk (dropC c) := h.c11.c1 (orB_lt (by decide) h.r1.1 h.r1.2)
theorem ROk.cause {c : Nat → Int} (h : ROk c) {k : Int} (hk : k = 1 ∨ k = 2 ∨ k = 4 ∨ k = 8) : ROk (upd c 1 (orB k (c 1))) := h.c1 (orB_lt hk h.r1.1 h.r1.2)
theorem ROk.headt {c : Nat → Int} (h : ROk c) : ROk (headt c) := ⟨h.r0, h.r1, h.r2, h.r3, h.r4, (by have := h.r4; show 0 ≤ (c 5 + 1) % c 4 ∧ (c 5 + 1) % c 4 < c 4; exact ⟨Int.emod_nonneg _ (by omega), Int.emod_lt_of_pos _ (by omega)⟩), h.r6, h.r7, h.r8, h.r9, h.r10, h.r11, h.r12, h.r13, h.r14⟩
theorem ROk.headr {c : Nat → Int} (h : ROk c) : ROk (headr c) := ⟨h.r0, h.r1, h.r2, h.r3, h.r4, h.r5, h.r6, h.r7, h.r8, (by have := h.r8; show 0 ≤ (c 9 + 1) % c 8 ∧ (c 9 + 1) % c 8 < c 8; exact ⟨Int.emod_nonneg _ (by omega), Int.emod_lt_of_pos _ (by omega)⟩), h.r10, h.r11, h.r12, h.r13, h.r14⟩
theorem bit_sub {x k : Int} (hk : k = 1 ∨ k = 2) (h0 : 0 ≤ x) (h1 : x < 8) (hb : bitB k x = true) : 0 ≤ x - k ∧ x - k < 8 := by
  unfold bitB at hb
  simp at hb
  rcases hk with rfl | rfl <;> omega
theorem ROk.broket {c : Nat → Int} (h : ROk c) (hb : bitB 1 (c 0) = true) : ROk (broket c) := (h.c0 (bit_sub (.inl rfl) h.r0.1 h.r0.2 hb)).fail
theorem ROk.broker {c : Nat → Int} (h : ROk c) (hb : bitB 2 (c 0) = true) : ROk (broker c) := (h.c0 (bit_sub (.inr rfl) h.r0.1 h.r0.2 hb)).fail
theorem bytesV_len {xs : List Int} {x n : Int} (h : insideV xs.length x n = true) : ((bytesV xs x n).length : Int) = n := by
  obtain ⟨lo, k, rfl, rfl, hlo⟩ := insideV_no h
  rw [bytesV_in hlo, cutL_length (by omega) hlo]
  omega
theorem al_ri {ops : Array Oper} {rest : List Oper} {o : Oper} {a : Act} {w : World} {Q : Exit → Act → World → Prop} (hgd : o.guard = none) (ho : o.op = .alloc 156)
    (h : ∀ w', Blk w' w.heap.size #[.int .i64 0, .int .i64 0, .int .i64 0, .int .i64 0, .int .u32 0] 156 → Grew w w' → wpList Tryz.prog ops Q rest (a.put o.dst (.pointer (some ⟨w.heap.size, 0, none⟩))) w') : wpList Tryz.prog ops Q (o :: rest) a w := by
  have hk := h _ (Blk.new w #[.int .i64 0, .int .i64 0, .int .i64 0, .int .i64 0, .int .u32 0] 156 _ rfl) ((Grew.refl w).alloc _)
  refine wpList_plain hgd fun K hK => ?_
  unfold Oper.wp execOp
  simp only [ho]
  go_simp
  exact hK _ _ hk
theorem al_rm {ops : Array Oper} {rest : List Oper} {o : Oper} {a : Act} {w : World} {Q : Exit → Act → World → Prop} (hgd : o.guard = none) (ho : o.op = .alloc 24)
    (h : ∀ w', Blk w' w.heap.size #[.slice none 0 0] 24 → Grew w w' → wpList Tryz.prog ops Q rest (a.put o.dst (.pointer (some ⟨w.heap.size, 0, none⟩))) w') : wpList Tryz.prog ops Q (o :: rest) a w := by
  have hk := h _ (Blk.new w #[.slice none 0 0] 24 _ rfl) ((Grew.refl w).alloc _)
  refine wpList_plain hgd fun K hK => ?_
  unfold Oper.wp execOp
  simp only [ho]
  go_simp
  exact hK _ _ hk
end Go.Proofs.YtgcfmijkggpemaaGreat
set_option maxRecDepth 4000
set_option linter.unusedVariables false
set_option linter.unusedSimpArgs false
namespace Go.Proofs.YtgcfmijkggpemaaGreat
open Go.RowKit

/-- May a controller with an address of n bytes be? -/
def chkB (c : Nat → Int) (n : Nat) : Bool := (n == 6) && (belowB (c 0) 8 && (belowB (c 1) 16 && (belowB (c 2) 16 && (ringB (c 3) (c 4) (c 5) (c 6) && (ringB (c 7) (c 8) (c 9) (c 10) && (belowB (c 11) 2147483649 && belowB (c 12) 2147483649))))))
/-- Numbers 13 and 14 tell of the address, whatever its length. -/
structure MacOf (c : Nat → Int) (m : List Int) : Prop where
  lo : c 13 = getV (cutL m 0 4) false
  hi : c 14 = getV (cutL m 4 6) false
  b3 : 0 ≤ c 3
  b7 : 0 ≤ c 7
theorem chk_ok {c : Nat → Int} {m : List Int} (hm : MacOf c m) (ha : AreBytes m) (h : chkB c m.length = true) : ROk c ∧ MacIs c m := by
  simp only [chkB, belowB, ringB, lenB, Bool.and_eq_true, beq_iff_eq, decide_eq_true_eq] at h
  obtain ⟨h6, ⟨a0, a1⟩, ⟨b0, b1⟩, ⟨d0, d1⟩, ⟨e0, ⟨e1, e2⟩, ⟨e3, e4⟩, e5, e6⟩, ⟨f0, ⟨f1, f2⟩, ⟨f3, f4⟩, f5, f6⟩, ⟨i0, i1⟩, j0, j1⟩ := h
  have h1 := getV_ltn (ha.cut 0 4) 4 (by rw [cutL_length (by decide) (by omega)]; decide)
  have h2 := getV_ltn (ha.cut 4 6) 2 (by rw [cutL_length (by decide) (by omega)]; decide)
  have k1 : getV (cutL m 0 4) false < 4294967296 := h1.2.1
  have k2 : getV (cutL m 4 6) false < 65536 := h2.2.1
  have l3 := hm.b3
  have l7 := hm.b7
  exact ⟨⟨⟨a0, a1⟩, ⟨b0, b1⟩, ⟨d0, d1⟩, ⟨l3, by omega⟩, ⟨e1, e2⟩, ⟨e3, e4⟩, ⟨e5, e6⟩, ⟨l7, by omega⟩, ⟨f1, f2⟩, ⟨f3, f4⟩, ⟨f5, f6⟩, ⟨i0, by omega⟩, ⟨j0, by omega⟩, by rw [hm.lo]; exact ⟨h1.1, k1⟩, by rw [hm.hi]; exact ⟨h2.1, by omega⟩⟩, h6, hm.lo, hm.hi⟩
theorem ok_chk {c : Nat → Int} (h : ROk c) : chkB c 6 = true := by
  simp only [chkB, belowB, ringB, lenB, Bool.and_eq_true, beq_iff_eq, decide_eq_true_eq]
  exact ⟨trivial, ⟨h.r0.1, h.r0.2⟩, ⟨h.r1.1, h.r1.2⟩, ⟨h.r2.1, h.r2.2⟩, ⟨by have := h.r3; omega, ⟨h.r4.1, h.r4.2⟩, ⟨h.r5.1, h.r5.2⟩, h.r6.1, h.r6.2⟩, ⟨by have := h.r7; omega, ⟨h.r8.1, h.r8.2⟩, ⟨h.r9.1, h.r9.2⟩, h.r10.1, h.r10.2⟩, ⟨h.r11.1, by have := h.r11; omega⟩, h.r12.1, by have := h.r12; omega⟩
set_option maxHeartbeats 4000000 in
theorem ncCheck_c (c : Nat → Int) (a : Option Addr) (n k : Nat) (w : World) : Calls Tryz.prog 70 #[ncV c (.slice a n k)] w fun e w' => e = .returned (.bool (chkB c n)) ∧ Grew w w' := by
  unfold chkB
  generalize e1 : belowB (c 0) 8 = b1 at *
  have E1 := Lib.hid e1
  generalize e2 : belowB (c 1) 16 = b2 at *
  have E2 := Lib.hid e2
  generalize e3 : belowB (c 2) 16 = b3 at *
  have E3 := Lib.hid e3
  generalize e4 : ringB (c 3) (c 4) (c 5) (c 6) = b4 at *
  have E4 := Lib.hid e4
  generalize e5 : ringB (c 7) (c 8) (c 9) (c 10) = b5 at *
  have E5 := Lib.hid e5
  generalize e6 : belowB (c 11) 2147483649 = b6 at *
  have E6 := Lib.hid e6
  generalize e7 : belowB (c 12) 2147483649 = b7 at *
  have E7 := Lib.hid e7
  clear e1 e2 e3 e4 e5 e6 e7
  by_cases h6 : n = 6
  · have hb0 : (n == 6) = true := by simpa using h6
    have hb1 : ((n : Int) == 6) = true := by simp; omega
    rw [hb0]
    clear h6
    cases b1
    · go_enter Tryz.func70, Tryz.ntmps70
      go_upto_region 1 with fail
      have kN : Blk (w.alloc (.cells (ncA c (.slice a n k)) 34)) w.heap.size (ncA c (.slice a n k)) 34 := Blk.new _ _ _ _ rfl
      have g0 : Grew w (w.alloc (.cells (ncA c (.slice a n k)) 34)) := (Grew.refl w).alloc _
      generalize (w.alloc (.cells (ncA c (.slice a n k)) 34)) = w0 at *
      generalize w.heap.size = N at *
      have y0 : w0.cell? ⟨N, 0, none⟩ = some (.int .i64 (c 0)) := kN.cell 0
      have y1 : w0.cell? ⟨N, 1, none⟩ = some (.int .i64 (c 1)) := kN.cell 1
      have y2 : w0.cell? ⟨N, 2, none⟩ = some (.int .i64 (c 2)) := kN.cell 2
      have y3 : w0.cell? ⟨N, 3, none⟩ = some (.int .u64 (c 3)) := kN.cell 3
      have y4 : w0.cell? ⟨N, 4, none⟩ = some (.int .i64 (c 4)) := kN.cell 4
      have y5 : w0.cell? ⟨N, 5, none⟩ = some (.int .i64 (c 5)) := kN.cell 5
      have y6 : w0.cell? ⟨N, 6, none⟩ = some (.int .i64 (c 6)) := kN.cell 6
      have y7 : w0.cell? ⟨N, 7, none⟩ = some (.int .u64 (c 7)) := kN.cell 7
      have y8 : w0.cell? ⟨N, 8, none⟩ = some (.int .i64 (c 8)) := kN.cell 8
      have y9 : w0.cell? ⟨N, 9, none⟩ = some (.int .i64 (c 9)) := kN.cell 9
      have y10 : w0.cell? ⟨N, 10, none⟩ = some (.int .i64 (c 10)) := kN.cell 10
      have y11 : w0.cell? ⟨N, 11, none⟩ = some (.int .i64 (c 11)) := kN.cell 11
      have y12 : w0.cell? ⟨N, 12, none⟩ = some (.int .i64 (c 12)) := kN.cell 12
      have y13 : w0.cell? ⟨N, 13, none⟩ = some (.slice a n k) := kN.cell 13
      clear kN
      go_wp2_with (first | (go_at_call 94; refine (isBelow_b _ _ _).mono ?_; rintro e w1 ⟨rfl, rfl⟩; first | rw [E1.out] | rw [E2.out] | rw [E3.out] | rw [E6.out] | rw [E7.out]) | (go_at_call 95; refine (isRing_c _ _ _ _ _).mono ?_; rintro e w1 ⟨rfl, rfl⟩; first | rw [E4.out] | rw [E5.out]))
      go_ret
      exact ⟨rfl, g0⟩
    cases b2
    · go_enter Tryz.func70, Tryz.ntmps70
      go_upto_region 1 with fail
      have kN : Blk (w.alloc (.cells (ncA c (.slice a n k)) 34)) w.heap.size (ncA c (.slice a n k)) 34 := Blk.new _ _ _ _ rfl
      have g0 : Grew w (w.alloc (.cells (ncA c (.slice a n k)) 34)) := (Grew.refl w).alloc _
      generalize (w.alloc (.cells (ncA c (.slice a n k)) 34)) = w0 at *
      generalize w.heap.size = N at *
      have y0 : w0.cell? ⟨N, 0, none⟩ = some (.int .i64 (c 0)) := kN.cell 0
      have y1 : w0.cell? ⟨N, 1, none⟩ = some (.int .i64 (c 1)) := kN.cell 1
      have y2 : w0.cell? ⟨N, 2, none⟩ = some (.int .i64 (c 2)) := kN.cell 2
      have y3 : w0.cell? ⟨N, 3, none⟩ = some (.int .u64 (c 3)) := kN.cell 3
      have y4 : w0.cell? ⟨N, 4, none⟩ = some (.int .i64 (c 4)) := kN.cell 4
      have y5 : w0.cell? ⟨N, 5, none⟩ = some (.int .i64 (c 5)) := kN.cell 5
      have y6 : w0.cell? ⟨N, 6, none⟩ = some (.int .i64 (c 6)) := kN.cell 6
      have y7 : w0.cell? ⟨N, 7, none⟩ = some (.int .u64 (c 7)) := kN.cell 7
      have y8 : w0.cell? ⟨N, 8, none⟩ = some (.int .i64 (c 8)) := kN.cell 8
      have y9 : w0.cell? ⟨N, 9, none⟩ = some (.int .i64 (c 9)) := kN.cell 9
      have y10 : w0.cell? ⟨N, 10, none⟩ = some (.int .i64 (c 10)) := kN.cell 10
      have y11 : w0.cell? ⟨N, 11, none⟩ = some (.int .i64 (c 11)) := kN.cell 11
      have y12 : w0.cell? ⟨N, 12, none⟩ = some (.int .i64 (c 12)) := kN.cell 12
      have y13 : w0.cell? ⟨N, 13, none⟩ = some (.slice a n k) := kN.cell 13
      clear kN
      go_wp2_with (first | (go_at_call 94; refine (isBelow_b _ _ _).mono ?_; rintro e w1 ⟨rfl, rfl⟩; first | rw [E1.out] | rw [E2.out] | rw [E3.out] | rw [E6.out] | rw [E7.out]) | (go_at_call 95; refine (isRing_c _ _ _ _ _).mono ?_; rintro e w1 ⟨rfl, rfl⟩; first | rw [E4.out] | rw [E5.out]))
      go_ret
      exact ⟨rfl, g0⟩
    cases b3
    · go_enter Tryz.func70, Tryz.ntmps70
      go_upto_region 1 with fail
      have kN : Blk (w.alloc (.cells (ncA c (.slice a n k)) 34)) w.heap.size (ncA c (.slice a n k)) 34 := Blk.new _ _ _ _ rfl
      have g0 : Grew w (w.alloc (.cells (ncA c (.slice a n k)) 34)) := (Grew.refl w).alloc _
      generalize (w.alloc (.cells (ncA c (.slice a n k)) 34)) = w0 at *
      generalize w.heap.size = N at *
      have y0 : w0.cell? ⟨N, 0, none⟩ = some (.int .i64 (c 0)) := kN.cell 0
      have y1 : w0.cell? ⟨N, 1, none⟩ = some (.int .i64 (c 1)) := kN.cell 1
      have y2 : w0.cell? ⟨N, 2, none⟩ = some (.int .i64 (c 2)) := kN.cell 2
      have y3 : w0.cell? ⟨N, 3, none⟩ = some (.int .u64 (c 3)) := kN.cell 3
      have y4 : w0.cell? ⟨N, 4, none⟩ = some (.int .i64 (c 4)) := kN.cell 4
      have y5 : w0.cell? ⟨N, 5, none⟩ = some (.int .i64 (c 5)) := kN.cell 5
      have y6 : w0.cell? ⟨N, 6, none⟩ = some (.int .i64 (c 6)) := kN.cell 6
      have y7 : w0.cell? ⟨N, 7, none⟩ = some (.int .u64 (c 7)) := kN.cell 7
      have y8 : w0.cell? ⟨N, 8, none⟩ = some (.int .i64 (c 8)) := kN.cell 8
      have y9 : w0.cell? ⟨N, 9, none⟩ = some (.int .i64 (c 9)) := kN.cell 9
      have y10 : w0.cell? ⟨N, 10, none⟩ = some (.int .i64 (c 10)) := kN.cell 10
      have y11 : w0.cell? ⟨N, 11, none⟩ = some (.int .i64 (c 11)) := kN.cell 11
      have y12 : w0.cell? ⟨N, 12, none⟩ = some (.int .i64 (c 12)) := kN.cell 12
      have y13 : w0.cell? ⟨N, 13, none⟩ = some (.slice a n k) := kN.cell 13
      clear kN
      go_wp2_with (first | (go_at_call 94; refine (isBelow_b _ _ _).mono ?_; rintro e w1 ⟨rfl, rfl⟩; first | rw [E1.out] | rw [E2.out] | rw [E3.out] | rw [E6.out] | rw [E7.out]) | (go_at_call 95; refine (isRing_c _ _ _ _ _).mono ?_; rintro e w1 ⟨rfl, rfl⟩; first | rw [E4.out] | rw [E5.out]))
      go_ret
      exact ⟨rfl, g0⟩
    cases b4
    · go_enter Tryz.func70, Tryz.ntmps70
      go_upto_region 1 with fail
      have kN : Blk (w.alloc (.cells (ncA c (.slice a n k)) 34)) w.heap.size (ncA c (.slice a n k)) 34 := Blk.new _ _ _ _ rfl
      have g0 : Grew w (w.alloc (.cells (ncA c (.slice a n k)) 34)) := (Grew.refl w).alloc _
      generalize (w.alloc (.cells (ncA c (.slice a n k)) 34)) = w0 at *
      generalize w.heap.size = N at *
      have y0 : w0.cell? ⟨N, 0, none⟩ = some (.int .i64 (c 0)) := kN.cell 0
      have y1 : w0.cell? ⟨N, 1, none⟩ = some (.int .i64 (c 1)) := kN.cell 1
      have y2 : w0.cell? ⟨N, 2, none⟩ = some (.int .i64 (c 2)) := kN.cell 2
      have y3 : w0.cell? ⟨N, 3, none⟩ = some (.int .u64 (c 3)) := kN.cell 3
      have y4 : w0.cell? ⟨N, 4, none⟩ = some (.int .i64 (c 4)) := kN.cell 4
      have y5 : w0.cell? ⟨N, 5, none⟩ = some (.int .i64 (c 5)) := kN.cell 5
      have y6 : w0.cell? ⟨N, 6, none⟩ = some (.int .i64 (c 6)) := kN.cell 6
      have y7 : w0.cell? ⟨N, 7, none⟩ = some (.int .u64 (c 7)) := kN.cell 7
      have y8 : w0.cell? ⟨N, 8, none⟩ = some (.int .i64 (c 8)) := kN.cell 8
      have y9 : w0.cell? ⟨N, 9, none⟩ = some (.int .i64 (c 9)) := kN.cell 9
      have y10 : w0.cell? ⟨N, 10, none⟩ = some (.int .i64 (c 10)) := kN.cell 10
      have y11 : w0.cell? ⟨N, 11, none⟩ = some (.int .i64 (c 11)) := kN.cell 11
      have y12 : w0.cell? ⟨N, 12, none⟩ = some (.int .i64 (c 12)) := kN.cell 12
      have y13 : w0.cell? ⟨N, 13, none⟩ = some (.slice a n k) := kN.cell 13
      clear kN
      go_wp2_with (first | (go_at_call 94; refine (isBelow_b _ _ _).mono ?_; rintro e w1 ⟨rfl, rfl⟩; first | rw [E1.out] | rw [E2.out] | rw [E3.out] | rw [E6.out] | rw [E7.out]) | (go_at_call 95; refine (isRing_c _ _ _ _ _).mono ?_; rintro e w1 ⟨rfl, rfl⟩; first | rw [E4.out] | rw [E5.out]))
      go_ret
      exact ⟨rfl, g0⟩
    cases b5
    · go_enter Tryz.func70, Tryz.ntmps70
      go_upto_region 1 with fail
      have kN : Blk (w.alloc (.cells (ncA c (.slice a n k)) 34)) w.heap.size (ncA c (.slice a n k)) 34 := Blk.new _ _ _ _ rfl
      have g0 : Grew w (w.alloc (.cells (ncA c (.slice a n k)) 34)) := (Grew.refl w).alloc _
      generalize (w.alloc (.cells (ncA c (.slice a n k)) 34)) = w0 at *
      generalize w.heap.size = N at *
      have y0 : w0.cell? ⟨N, 0, none⟩ = some (.int .i64 (c 0)) := kN.cell 0
      have y1 : w0.cell? ⟨N, 1, none⟩ = some (.int .i64 (c 1)) := kN.cell 1
      have y2 : w0.cell? ⟨N, 2, none⟩ = some (.int .i64 (c 2)) := kN.cell 2
      have y3 : w0.cell? ⟨N, 3, none⟩ = some (.int .u64 (c 3)) := kN.cell 3
      have y4 : w0.cell? ⟨N, 4, none⟩ = some (.int .i64 (c 4)) := kN.cell 4
      have y5 : w0.cell? ⟨N, 5, none⟩ = some (.int .i64 (c 5)) := kN.cell 5
      have y6 : w0.cell? ⟨N, 6, none⟩ = some (.int .i64 (c 6)) := kN.cell 6
      have y7 : w0.cell? ⟨N, 7, none⟩ = some (.int .u64 (c 7)) := kN.cell 7
      have y8 : w0.cell? ⟨N, 8, none⟩ = some (.int .i64 (c 8)) := kN.cell 8
      have y9 : w0.cell? ⟨N, 9, none⟩ = some (.int .i64 (c 9)) := kN.cell 9
      have y10 : w0.cell? ⟨N, 10, none⟩ = some (.int .i64 (c 10)) := kN.cell 10
      have y11 : w0.cell? ⟨N, 11, none⟩ = some (.int .i64 (c 11)) := kN.cell 11
      have y12 : w0.cell? ⟨N, 12, none⟩ = some (.int .i64 (c 12)) := kN.cell 12
      have y13 : w0.cell? ⟨N, 13, none⟩ = some (.slice a n k) := kN.cell 13
      clear kN
      go_wp2_with (first | (go_at_call 94; refine (isBelow_b _ _ _).mono ?_; rintro e w1 ⟨rfl, rfl⟩; first | rw [E1.out] | rw [E2.out] | rw [E3.out] | rw [E6.out] | rw [E7.out]) | (go_at_call 95; refine (isRing_c _ _ _ _ _).mono ?_; rintro e w1 ⟨rfl, rfl⟩; first | rw [E4.out] | rw [E5.out]))
      go_ret
      exact ⟨rfl, g0⟩
    cases b6
    · go_enter Tryz.func70, Tryz.ntmps70
      go_upto_region 1 with fail
      have kN : Blk (w.alloc (.cells (ncA c (.slice a n k)) 34)) w.heap.size (ncA c (.slice a n k)) 34 := Blk.new _ _ _ _ rfl
      have g0 : Grew w (w.alloc (.cells (ncA c (.slice a n k)) 34)) := (Grew.refl w).alloc _
      generalize (w.alloc (.cells (ncA c (.slice a n k)) 34)) = w0 at *
      generalize w.heap.size = N at *
      have y0 : w0.cell? ⟨N, 0, none⟩ = some (.int .i64 (c 0)) := kN.cell 0
      have y1 : w0.cell? ⟨N, 1, none⟩ = some (.int .i64 (c 1)) := kN.cell 1
      have y2 : w0.cell? ⟨N, 2, none⟩ = some (.int .i64 (c 2)) := kN.cell 2
      have y3 : w0.cell? ⟨N, 3, none⟩ = some (.int .u64 (c 3)) := kN.cell 3
      have y4 : w0.cell? ⟨N, 4, none⟩ = some (.int .i64 (c 4)) := kN.cell 4
      have y5 : w0.cell? ⟨N, 5, none⟩ = some (.int .i64 (c 5)) := kN.cell 5
      have y6 : w0.cell? ⟨N, 6, none⟩ = some (.int .i64 (c 6)) := kN.cell 6
      have y7 : w0.cell? ⟨N, 7, none⟩ = some (.int .u64 (c 7)) := kN.cell 7
      have y8 : w0.cell? ⟨N, 8, none⟩ = some (.int .i64 (c 8)) := kN.cell 8
      have y9 : w0.cell? ⟨N, 9, none⟩ = some (.int .i64 (c 9)) := kN.cell 9
      have y10 : w0.cell? ⟨N, 10, none⟩ = some (.int .i64 (c 10)) := kN.cell 10
      have y11 : w0.cell? ⟨N, 11, none⟩ = some (.int .i64 (c 11)) := kN.cell 11
      have y12 : w0.cell? ⟨N, 12, none⟩ = some (.int .i64 (c 12)) := kN.cell 12
      have y13 : w0.cell? ⟨N, 13, none⟩ = some (.slice a n k) := kN.cell 13
      clear kN
      go_wp2_with (first | (go_at_call 94; refine (isBelow_b _ _ _).mono ?_; rintro e w1 ⟨rfl, rfl⟩; first | rw [E1.out] | rw [E2.out] | rw [E3.out] | rw [E6.out] | rw [E7.out]) | (go_at_call 95; refine (isRing_c _ _ _ _ _).mono ?_; rintro e w1 ⟨rfl, rfl⟩; first | rw [E4.out] | rw [E5.out]))
      go_ret
      exact ⟨rfl, g0⟩
    cases b7
    · go_enter Tryz.func70, Tryz.ntmps70
      go_upto_region 1 with fail
      have kN : Blk (w.alloc (.cells (ncA c (.slice a n k)) 34)) w.heap.size (ncA c (.slice a n k)) 34 := Blk.new _ _ _ _ rfl
      have g0 : Grew w (w.alloc (.cells (ncA c (.slice a n k)) 34)) := (Grew.refl w).alloc _
      generalize (w.alloc (.cells (ncA c (.slice a n k)) 34)) = w0 at *
      generalize w.heap.size = N at *
      have y0 : w0.cell? ⟨N, 0, none⟩ = some (.int .i64 (c 0)) := kN.cell 0
      have y1 : w0.cell? ⟨N, 1, none⟩ = some (.int .i64 (c 1)) := kN.cell 1
      have y2 : w0.cell? ⟨N, 2, none⟩ = some (.int .i64 (c 2)) := kN.cell 2
      have y3 : w0.cell? ⟨N, 3, none⟩ = some (.int .u64 (c 3)) := kN.cell 3
      have y4 : w0.cell? ⟨N, 4, none⟩ = some (.int .i64 (c 4)) := kN.cell 4
      have y5 : w0.cell? ⟨N, 5, none⟩ = some (.int .i64 (c 5)) := kN.cell 5
      have y6 : w0.cell? ⟨N, 6, none⟩ = some (.int .i64 (c 6)) := kN.cell 6
      have y7 : w0.cell? ⟨N, 7, none⟩ = some (.int .u64 (c 7)) := kN.cell 7
      have y8 : w0.cell? ⟨N, 8, none⟩ = some (.int .i64 (c 8)) := kN.cell 8
      have y9 : w0.cell? ⟨N, 9, none⟩ = some (.int .i64 (c 9)) := kN.cell 9
      have y10 : w0.cell? ⟨N, 10, none⟩ = some (.int .i64 (c 10)) := kN.cell 10
      have y11 : w0.cell? ⟨N, 11, none⟩ = some (.int .i64 (c 11)) := kN.cell 11
      have y12 : w0.cell? ⟨N, 12, none⟩ = some (.int .i64 (c 12)) := kN.cell 12
      have y13 : w0.cell? ⟨N, 13, none⟩ = some (.slice a n k) := kN.cell 13
      clear kN
      go_wp2_with (first | (go_at_call 94; refine (isBelow_b _ _ _).mono ?_; rintro e w1 ⟨rfl, rfl⟩; first | rw [E1.out] | rw [E2.out] | rw [E3.out] | rw [E6.out] | rw [E7.out]) | (go_at_call 95; refine (isRing_c _ _ _ _ _).mono ?_; rintro e w1 ⟨rfl, rfl⟩; first | rw [E4.out] | rw [E5.out]))
      go_ret
      exact ⟨rfl, g0⟩
    go_enter Tryz.func70, Tryz.ntmps70
    go_upto_region 1 with fail
    have kN : Blk (w.alloc (.cells (ncA c (.slice a n k)) 34)) w.heap.size (ncA c (.slice a n k)) 34 := Blk.new _ _ _ _ rfl
    have g0 : Grew w (w.alloc (.cells (ncA c (.slice a n k)) 34)) := (Grew.refl w).alloc _
    generalize (w.alloc (.cells (ncA c (.slice a n k)) 34)) = w0 at *
    generalize w.heap.size = N at *
    have y0 : w0.cell? ⟨N, 0, none⟩ = some (.int .i64 (c 0)) := kN.cell 0
    have y1 : w0.cell? ⟨N, 1, none⟩ = some (.int .i64 (c 1)) := kN.cell 1
    have y2 : w0.cell? ⟨N, 2, none⟩ = some (.int .i64 (c 2)) := kN.cell 2
    have y3 : w0.cell? ⟨N, 3, none⟩ = some (.int .u64 (c 3)) := kN.cell 3
    have y4 : w0.cell? ⟨N, 4, none⟩ = some (.int .i64 (c 4)) := kN.cell 4
    have y5 : w0.cell? ⟨N, 5, none⟩ = some (.int .i64 (c 5)) := kN.cell 5
    have y6 : w0.cell? ⟨N, 6, none⟩ = some (.int .i64 (c 6)) := kN.cell 6
    have y7 : w0.cell? ⟨N, 7, none⟩ = some (.int .u64 (c 7)) := kN.cell 7
    have y8 : w0.cell? ⟨N, 8, none⟩ = some (.int .i64 (c 8)) := kN.cell 8
    have y9 : w0.cell? ⟨N, 9, none⟩ = some (.int .i64 (c 9)) := kN.cell 9
    have y10 : w0.cell? ⟨N, 10, none⟩ = some (.int .i64 (c 10)) := kN.cell 10
    have y11 : w0.cell? ⟨N, 11, none⟩ = some (.int .i64 (c 11)) := kN.cell 11
    have y12 : w0.cell? ⟨N, 12, none⟩ = some (.int .i64 (c 12)) := kN.cell 12
    have y13 : w0.cell? ⟨N, 13, none⟩ = some (.slice a n k) := kN.cell 13
    clear kN
    go_wp2_with (first | (go_at_call 94; refine (isBelow_b _ _ _).mono ?_; rintro e w1 ⟨rfl, rfl⟩; first | rw [E1.out] | rw [E2.out] | rw [E3.out] | rw [E6.out] | rw [E7.out]) | (go_at_call 95; refine (isRing_c _ _ _ _ _).mono ?_; rintro e w1 ⟨rfl, rfl⟩; first | rw [E4.out] | rw [E5.out]))
    go_ret
    exact ⟨rfl, g0⟩
  · have hb0 : (n == 6) = false := by simpa using h6
    have hb1 : ((n : Int) == 6) = false := by simp; omega
    rw [hb0]
    clear h6
    go_enter Tryz.func70, Tryz.ntmps70
    go_upto_region 1 with fail
    have kN : Blk (w.alloc (.cells (ncA c (.slice a n k)) 34)) w.heap.size (ncA c (.slice a n k)) 34 := Blk.new _ _ _ _ rfl
    have g0 : Grew w (w.alloc (.cells (ncA c (.slice a n k)) 34)) := (Grew.refl w).alloc _
    generalize (w.alloc (.cells (ncA c (.slice a n k)) 34)) = w0 at *
    generalize w.heap.size = N at *
    have y0 : w0.cell? ⟨N, 0, none⟩ = some (.int .i64 (c 0)) := kN.cell 0
    have y1 : w0.cell? ⟨N, 1, none⟩ = some (.int .i64 (c 1)) := kN.cell 1
    have y2 : w0.cell? ⟨N, 2, none⟩ = some (.int .i64 (c 2)) := kN.cell 2
    have y3 : w0.cell? ⟨N, 3, none⟩ = some (.int .u64 (c 3)) := kN.cell 3
    have y4 : w0.cell? ⟨N, 4, none⟩ = some (.int .i64 (c 4)) := kN.cell 4
    have y5 : w0.cell? ⟨N, 5, none⟩ = some (.int .i64 (c 5)) := kN.cell 5
    have y6 : w0.cell? ⟨N, 6, none⟩ = some (.int .i64 (c 6)) := kN.cell 6
    have y7 : w0.cell? ⟨N, 7, none⟩ = some (.int .u64 (c 7)) := kN.cell 7
    have y8 : w0.cell? ⟨N, 8, none⟩ = some (.int .i64 (c 8)) := kN.cell 8
    have y9 : w0.cell? ⟨N, 9, none⟩ = some (.int .i64 (c 9)) := kN.cell 9
    have y10 : w0.cell? ⟨N, 10, none⟩ = some (.int .i64 (c 10)) := kN.cell 10
    have y11 : w0.cell? ⟨N, 11, none⟩ = some (.int .i64 (c 11)) := kN.cell 11
    have y12 : w0.cell? ⟨N, 12, none⟩ = some (.int .i64 (c 12)) := kN.cell 12
    have y13 : w0.cell? ⟨N, 13, none⟩ = some (.slice a n k) := kN.cell 13
    clear kN
    go_wp2_with (first | (go_at_call 94; refine (isBelow_b _ _ _).mono ?_; rintro e w1 ⟨rfl, rfl⟩; first | rw [E1.out] | rw [E2.out] | rw [E3.out] | rw [E6.out] | rw [E7.out]) | (go_at_call 95; refine (isRing_c _ _ _ _ _).mono ?_; rintro e w1 ⟨rfl, rfl⟩; first | rw [E4.out] | rw [E5.out]))
    go_ret
    exact ⟨rfl, g0⟩
def lineB (c : Nat → Int) (n : Nat) : Bool := chkB c n && (bits .and .i64 (c 1) (c 2) != 0)
theorem ncLine_c (c : Nat → Int) (a : Option Addr) (n k : Nat) (w : World) : Calls Tryz.prog 41 #[ncV c (.slice a n k)] w fun e w' => e = .returned (.bool (lineB c n)) ∧ Grew w w' := by
  have hC := Lib.hid (ncCheck_c c a n k)
  unfold lineB
  cases hb : chkB c n
  all_goals
    rw [hb] at hC
    go_enter Tryz.func41, Tryz.ntmps41
    go_upto_region 1 with fail
    have kN : Blk (w.alloc (.cells (ncA c (.slice a n k)) 34)) w.heap.size (ncA c (.slice a n k)) 34 := Blk.new _ _ _ _ rfl
    have g0 : Grew w (w.alloc (.cells (ncA c (.slice a n k)) 34)) := (Grew.refl w).alloc _
    generalize (w.alloc (.cells (ncA c (.slice a n k)) 34)) = w0 at *
    generalize w.heap.size = N at *
    go_wp2_with (refine ld_nc rfl (.tmp 1) rfl _ rfl kN (by rfl) ?_)
    refine (hC.out _).mono ?_
    rintro e w1 ⟨rfl, g1⟩
    have kN1 := kN.grew g1
    have y1 : w1.cell? ⟨N, 1, none⟩ = some (.int .i64 (c 1)) := kN1.cell 1
    have y2 : w1.cell? ⟨N, 2, none⟩ = some (.int .i64 (c 2)) := kN1.cell 2
    go_wp2_with fail
    go_ret
    exact ⟨rfl, g0.trans g1⟩
set_option maxHeartbeats 1000000 in
theorem ownN_c {c : Nat → Int} {m : List Int} (hl : m.length ≤ 140737488355328) {a : Option Addr} {k : Nat} {w : World} (hb : Buf w (.slice a m.length k) m) : Calls Tryz.prog 83 #[ncV c (.slice a m.length k)] w fun e w' => ∃ b j, e = .returned (ncV c (.slice b m.length j)) ∧ Hid (Row w' w.heap.size (.slice b m.length j) m) ∧ Grew w w' := by
  have HB := Lib.hid hb
  have HC := Lib.hid (fun (w : World) (h : Buf w (.slice a m.length k) m) => Clone_c hl h)
  clear hb hl
  generalize hn : m.length = n at *
  have HN := Lib.hid hn
  clear hn
  go_enter Tryz.func83, Tryz.ntmps83
  go_upto_region 1 with fail
  have kN : Blk ((w.alloc (.cells (ncA c (.slice a n k)) 34)).alloc (.cells zeroN 34)) w.heap.size (ncA c (.slice a n k)) 34 := (Blk.new w (ncA c (.slice a n k)) 34 _ rfl).alloc (.cells zeroN 34)
  have kR : Blk ((w.alloc (.cells (ncA c (.slice a n k)) 34)).alloc (.cells zeroN 34)) (w.heap.size + 1) zeroN 34 := Blk.new (w.alloc (.cells (ncA c (.slice a n k)) 34)) zeroN 34 _ (by simp)
  have g0 : Grew w ((w.alloc (.cells (ncA c (.slice a n k)) 34)).alloc (.cells zeroN 34)) := ((Grew.refl w).alloc (.cells (ncA c (.slice a n k)) 34)).alloc (.cells zeroN 34)
  generalize ((w.alloc (.cells (ncA c (.slice a n k)) 34)).alloc (.cells zeroN 34)) = w0 at *
  have lN : w.heap.size ≤ w.heap.size := by omega
  have lR : w.heap.size ≤ (w.heap.size + 1) := by omega
  have nNR : w.heap.size ≠ (w.heap.size + 1) := by omega
  have nRN : (w.heap.size + 1) ≠ w.heap.size := by omega
  generalize (w.heap.size + 1) = R at *
  generalize hZ : w.heap.size = N at *
  have HZ := Lib.hid hZ
  clear hZ
  have LN : Hid (w.heap.size ≤ N) := Lib.hid (by rw [HZ.out]; exact lN)
  have LR : Hid (w.heap.size ≤ R) := Lib.hid (by rw [HZ.out]; exact lR)
  have y13 : w0.cell? ⟨N, 13, none⟩ = some (.slice a n k) := kN.cell 13
  go_wp2_with fail
  refine (HC.out _ (HB.out.grew g0)).mono ?_
  rintro e w1 ⟨b, j, rfl, HR, g1⟩
  have kN1 := kN.grew g1
  have kR1 := kR.grew g1
  have lN1 := kN.lt
  have lR1 := kR.lt
  clear y13
  have y13 : w1.cell? ⟨N, 13, none⟩ = some (.slice a n k) := kN1.cell 13
  have f13 := kN1.free 13
  go_upto_region 2 with fail
  have o2 := Only.set w1 N 13 (.slice b n j)
  have kN2 : Blk (w1.setCell ⟨N, 13, none⟩ (.slice b n j)) N (ncA c (.slice b n j)) 34 := kN1.set (o := 13) (.slice b n j)
  have kR2 := kR1.only o2 nRN
  have HR2 := Lib.hid (HR.out.only o2 kN1 (by decide))
  have g2 : Grew w _ := o2.grew (g0.trans g1) LN.out
  clear y13 f13 kN1 kR1 HR
  generalize (w1.setCell ⟨N, 13, none⟩ (.slice b n j)) = w2 at *
  go_wp2_with (first | (refine ld_nc rfl (.tmp 1) rfl _ rfl kN2 (by rfl) ?_) | (refine st_nc rfl (.tmp 2) (.tmp 7) rfl rfl c kR2 rfl (by rfl) (by rfl) ⟨_, _, _, rfl⟩ ?_; intro w3 kR3 o3))
  have g3 : Grew w w3 := o3.grew g2 LR.out
  exact bodyPost_ret (v := ncV c (.slice b n j)) (results_cell_row (p := 2) (ty := 34) Tryz.results83 _ _ R 34 (ncA c (.slice b n j)) (0, 0) _ rfl kR3 Tryz.underlying34 rfl ncInfo) rfl ⟨b, j, rfl, Lib.hid ((HR2.out.only o3 kR2 (by decide)).low g0.size), g3⟩
end Go.Proofs.YtgcfmijkggpemaaGreat
set_option maxRecDepth 4000
set_option linter.unusedVariables false
set_option linter.unusedSimpArgs false
namespace Go.Proofs.YtgcfmijkggpemaaGreat
open Go.RowKit

/-- What a store of y at register k makes. -/
def clrV (x y : Int) : Int := bits .andNot .u32 x y
def stC (k : Nat) (y : Int) (c : Nat → Int) : Nat → Int :=
  if k = 0 then upd c 0 (y % 8) else if k = 1 then upd c 1 (clrV (c 1) y) else if k = 2 then upd c 2 (y % 16) else if k = 3 then upd c 3 y else if k = 7 then upd c 7 y
  else if k = 4 then begint y c else if k = 8 then beginr y c else if k = 6 then reacht y c else if k = 10 then reachr y c else c
set_option maxHeartbeats 1000000 in
theorem store_0 {c : Nat → Int} {p : Nat} {w : World} (hB : Blk w p (rgA c) 165) {y : Int} (h0 : 0 ≤ y) (h1 : y < 4294967296) : Calls Tryz.prog 84 #[.pointer (some ⟨p, 0, none⟩), .int .i64 0, .int .u32 y] w fun e w' => e = .returned (.tuple #[]) ∧ Blk w' p (rgA (stC 0 y c)) 165 ∧ Trn p w w' := by
  have c0 := hB.rgC 0 (by decide)
  have f0 := hB.free 0
  have HB := Lib.hid hB
  have q1 : y.tmod 8 = y % 8 := Int.tmod_eq_emod_of_nonneg h0
  have q2 : y.tmod 16 = y % 16 := Int.tmod_eq_emod_of_nonneg h0
  have q3 : IntKind.u32.wrap (y % 8) = y % 8 := u32_in (by omega)
  have q4 : IntKind.u32.wrap (y % 16) = y % 16 := u32_in (by omega)
  clear hB
  go_enter Tryz.func84, Tryz.ntmps84
  go_wp2_with fail
  go_end0
  exact ⟨rfl, HB.out.rg (by decide) _, Trn.set _ _ _ _⟩
set_option maxHeartbeats 1000000 in
theorem store_1 {c : Nat → Int} {p : Nat} {w : World} (hB : Blk w p (rgA c) 165) {y : Int} (h0 : 0 ≤ y) (h1 : y < 4294967296) : Calls Tryz.prog 84 #[.pointer (some ⟨p, 0, none⟩), .int .i64 1, .int .u32 y] w fun e w' => e = .returned (.tuple #[]) ∧ Blk w' p (rgA (stC 1 y c)) 165 ∧ Trn p w w' := by
  have z0 := fun z : Over w => hB.rgO 1 (by decide) z
  have HB := Lib.hid hB
  clear hB
  go_enter Tryz.func84, Tryz.ntmps84
  go_upto_region 4 with fail
  refine region_over_tail 8 (by kernel_rfl) (by kernel_rfl) ?_
  simp only [List.take_succ_cons, List.take_zero, List.drop_succ_cons, List.drop_zero]
  repeat (first | go_big_quiet_step (fail) | quiet_step (fail))
  refine wpQuiet_nil ?_
  intro z
  have hB := HB.out.over z
  have c0 := hB.rgC 1 (by decide)
  have f0 := hB.free 1
  have HB1 := Lib.hid hB
  have tz : Trn p w z.w := Trn.of_grew z.g
  clear hB z0
  generalize z.w = w1 at *
  go_wp2_with fail
  go_end0
  exact ⟨rfl, HB1.out.rg (by decide) _, tz.trans (Trn.set _ _ _ _)⟩
set_option maxHeartbeats 1000000 in
theorem store_2 {c : Nat → Int} {p : Nat} {w : World} (hB : Blk w p (rgA c) 165) {y : Int} (h0 : 0 ≤ y) (h1 : y < 4294967296) : Calls Tryz.prog 84 #[.pointer (some ⟨p, 0, none⟩), .int .i64 2, .int .u32 y] w fun e w' => e = .returned (.tuple #[]) ∧ Blk w' p (rgA (stC 2 y c)) 165 ∧ Trn p w w' := by
  have c0 := hB.rgC 2 (by decide)
  have f0 := hB.free 2
  have HB := Lib.hid hB
  have q1 : y.tmod 8 = y % 8 := Int.tmod_eq_emod_of_nonneg h0
  have q2 : y.tmod 16 = y % 16 := Int.tmod_eq_emod_of_nonneg h0
  have q3 : IntKind.u32.wrap (y % 8) = y % 8 := u32_in (by omega)
  have q4 : IntKind.u32.wrap (y % 16) = y % 16 := u32_in (by omega)
  clear hB
  go_enter Tryz.func84, Tryz.ntmps84
  go_wp2_with fail
  go_end0
  exact ⟨rfl, HB.out.rg (by decide) _, Trn.set _ _ _ _⟩
set_option maxHeartbeats 1000000 in
theorem store_3 {c : Nat → Int} {p : Nat} {w : World} (hB : Blk w p (rgA c) 165) {y : Int} (h0 : 0 ≤ y) (h1 : y < 4294967296) : Calls Tryz.prog 84 #[.pointer (some ⟨p, 0, none⟩), .int .i64 3, .int .u32 y] w fun e w' => e = .returned (.tuple #[]) ∧ Blk w' p (rgA (stC 3 y c)) 165 ∧ Trn p w w' := by
  have c0 := hB.rgC 3 (by decide)
  have f0 := hB.free 3
  have HB := Lib.hid hB
  have q1 : y.tmod 8 = y % 8 := Int.tmod_eq_emod_of_nonneg h0
  have q2 : y.tmod 16 = y % 16 := Int.tmod_eq_emod_of_nonneg h0
  have q3 : IntKind.u32.wrap (y % 8) = y % 8 := u32_in (by omega)
  have q4 : IntKind.u32.wrap (y % 16) = y % 16 := u32_in (by omega)
  clear hB
  go_enter Tryz.func84, Tryz.ntmps84
  go_wp2_with fail
  go_end0
  exact ⟨rfl, HB.out.rg (by decide) _, Trn.set _ _ _ _⟩
set_option maxHeartbeats 1000000 in
theorem store_4 {c : Nat → Int} {p : Nat} {w : World} (hB : Blk w p (rgA c) 165) {y : Int} (h0 : 0 ≤ y) (h1 : y < 4294967296) : Calls Tryz.prog 84 #[.pointer (some ⟨p, 0, none⟩), .int .i64 4, .int .u32 y] w fun e w' => e = .returned (.tuple #[]) ∧ Blk w' p (rgA (stC 4 y c)) 165 ∧ Trn p w w' := by
  have hG := Lib.hid (fun (w : World) (h : Blk w p (rgA c) 165) => begin_t h y h0 h1)
  show Calls _ _ _ _ fun e w' => _ ∧ Blk w' p (rgA (begint y c)) 165 ∧ _
  clear h0 h1
  go_enter Tryz.func84, Tryz.ntmps84
  go_wp2_with fail
  refine (sending_c _).mono ?_
  rintro e w1 ⟨rfl, g1⟩
  have hB1 := hB.grew g1
  go_wp2_with fail
  refine (hG.out _ hB1).mono ?_
  rintro e w2 ⟨rfl, hB2, t2⟩
  go_wp2_with fail
  go_end0
  exact ⟨rfl, hB2, (Trn.of_grew g1).trans t2⟩
set_option maxHeartbeats 1000000 in
theorem store_5 {c : Nat → Int} {p : Nat} {w : World} (hB : Blk w p (rgA c) 165) {y : Int} (h0 : 0 ≤ y) (h1 : y < 4294967296) : Calls Tryz.prog 84 #[.pointer (some ⟨p, 0, none⟩), .int .i64 5, .int .u32 y] w fun e w' => e = .returned (.tuple #[]) ∧ Blk w' p (rgA (stC 5 y c)) 165 ∧ Trn p w w' := by
  have HB := Lib.hid hB
  clear hB
  go_enter Tryz.func84, Tryz.ntmps84
  go_wp2_with fail
  go_end0
  exact ⟨rfl, HB.out, Trn.refl _ _⟩
set_option maxHeartbeats 1000000 in
theorem store_6 {c : Nat → Int} {p : Nat} {w : World} (hB : Blk w p (rgA c) 165) {y : Int} (h0 : 0 ≤ y) (h1 : y < 4294967296) : Calls Tryz.prog 84 #[.pointer (some ⟨p, 0, none⟩), .int .i64 6, .int .u32 y] w fun e w' => e = .returned (.tuple #[]) ∧ Blk w' p (rgA (stC 6 y c)) 165 ∧ Trn p w w' := by
  have hG := Lib.hid (fun (w : World) (h : Blk w p (rgA c) 165) => reach_t h y)
  show Calls _ _ _ _ fun e w' => _ ∧ Blk w' p (rgA (reacht y c)) 165 ∧ _
  clear h0 h1
  go_enter Tryz.func84, Tryz.ntmps84
  go_wp2_with fail
  refine (sending_c _).mono ?_
  rintro e w1 ⟨rfl, g1⟩
  have hB1 := hB.grew g1
  go_wp2_with fail
  refine (hG.out _ hB1).mono ?_
  rintro e w2 ⟨rfl, hB2, t2⟩
  go_wp2_with fail
  go_end0
  exact ⟨rfl, hB2, (Trn.of_grew g1).trans t2⟩
set_option maxHeartbeats 1000000 in
theorem store_7 {c : Nat → Int} {p : Nat} {w : World} (hB : Blk w p (rgA c) 165) {y : Int} (h0 : 0 ≤ y) (h1 : y < 4294967296) : Calls Tryz.prog 84 #[.pointer (some ⟨p, 0, none⟩), .int .i64 7, .int .u32 y] w fun e w' => e = .returned (.tuple #[]) ∧ Blk w' p (rgA (stC 7 y c)) 165 ∧ Trn p w w' := by
  have c0 := hB.rgC 7 (by decide)
  have f0 := hB.free 7
  have HB := Lib.hid hB
  have q1 : y.tmod 8 = y % 8 := Int.tmod_eq_emod_of_nonneg h0
  have q2 : y.tmod 16 = y % 16 := Int.tmod_eq_emod_of_nonneg h0
  have q3 : IntKind.u32.wrap (y % 8) = y % 8 := u32_in (by omega)
  have q4 : IntKind.u32.wrap (y % 16) = y % 16 := u32_in (by omega)
  clear hB
  go_enter Tryz.func84, Tryz.ntmps84
  go_wp2_with fail
  go_end0
  exact ⟨rfl, HB.out.rg (by decide) _, Trn.set _ _ _ _⟩
set_option maxHeartbeats 1000000 in
theorem store_8 {c : Nat → Int} {p : Nat} {w : World} (hB : Blk w p (rgA c) 165) {y : Int} (h0 : 0 ≤ y) (h1 : y < 4294967296) : Calls Tryz.prog 84 #[.pointer (some ⟨p, 0, none⟩), .int .i64 8, .int .u32 y] w fun e w' => e = .returned (.tuple #[]) ∧ Blk w' p (rgA (stC 8 y c)) 165 ∧ Trn p w w' := by
  have hG := Lib.hid (fun (w : World) (h : Blk w p (rgA c) 165) => begin_r h y h0 h1)
  show Calls _ _ _ _ fun e w' => _ ∧ Blk w' p (rgA (beginr y c)) 165 ∧ _
  clear h0 h1
  go_enter Tryz.func84, Tryz.ntmps84
  go_wp2_with fail
  refine (receiving_c _).mono ?_
  rintro e w1 ⟨rfl, g1⟩
  have hB1 := hB.grew g1
  go_wp2_with fail
  refine (hG.out _ hB1).mono ?_
  rintro e w2 ⟨rfl, hB2, t2⟩
  go_wp2_with fail
  go_end0
  exact ⟨rfl, hB2, (Trn.of_grew g1).trans t2⟩
set_option maxHeartbeats 1000000 in
theorem store_9 {c : Nat → Int} {p : Nat} {w : World} (hB : Blk w p (rgA c) 165) {y : Int} (h0 : 0 ≤ y) (h1 : y < 4294967296) : Calls Tryz.prog 84 #[.pointer (some ⟨p, 0, none⟩), .int .i64 9, .int .u32 y] w fun e w' => e = .returned (.tuple #[]) ∧ Blk w' p (rgA (stC 9 y c)) 165 ∧ Trn p w w' := by
  have HB := Lib.hid hB
  clear hB
  go_enter Tryz.func84, Tryz.ntmps84
  go_wp2_with fail
  go_end0
  exact ⟨rfl, HB.out, Trn.refl _ _⟩
set_option maxHeartbeats 1000000 in
theorem store_10 {c : Nat → Int} {p : Nat} {w : World} (hB : Blk w p (rgA c) 165) {y : Int} (h0 : 0 ≤ y) (h1 : y < 4294967296) : Calls Tryz.prog 84 #[.pointer (some ⟨p, 0, none⟩), .int .i64 10, .int .u32 y] w fun e w' => e = .returned (.tuple #[]) ∧ Blk w' p (rgA (stC 10 y c)) 165 ∧ Trn p w w' := by
  have hG := Lib.hid (fun (w : World) (h : Blk w p (rgA c) 165) => reach_r h y)
  show Calls _ _ _ _ fun e w' => _ ∧ Blk w' p (rgA (reachr y c)) 165 ∧ _
  clear h0 h1
  go_enter Tryz.func84, Tryz.ntmps84
  go_wp2_with fail
  refine (receiving_c _).mono ?_
  rintro e w1 ⟨rfl, g1⟩
  have hB1 := hB.grew g1
  go_wp2_with fail
  refine (hG.out _ hB1).mono ?_
  rintro e w2 ⟨rfl, hB2, t2⟩
  go_wp2_with fail
  go_end0
  exact ⟨rfl, hB2, (Trn.of_grew g1).trans t2⟩
set_option maxHeartbeats 1000000 in
theorem store_11 {c : Nat → Int} {p : Nat} {w : World} (hB : Blk w p (rgA c) 165) {y : Int} (h0 : 0 ≤ y) (h1 : y < 4294967296) : Calls Tryz.prog 84 #[.pointer (some ⟨p, 0, none⟩), .int .i64 11, .int .u32 y] w fun e w' => e = .returned (.tuple #[]) ∧ Blk w' p (rgA (stC 11 y c)) 165 ∧ Trn p w w' := by
  have HB := Lib.hid hB
  clear hB
  go_enter Tryz.func84, Tryz.ntmps84
  go_wp2_with fail
  go_end0
  exact ⟨rfl, HB.out, Trn.refl _ _⟩
set_option maxHeartbeats 1000000 in
theorem store_12 {c : Nat → Int} {p : Nat} {w : World} (hB : Blk w p (rgA c) 165) {y : Int} (h0 : 0 ≤ y) (h1 : y < 4294967296) : Calls Tryz.prog 84 #[.pointer (some ⟨p, 0, none⟩), .int .i64 12, .int .u32 y] w fun e w' => e = .returned (.tuple #[]) ∧ Blk w' p (rgA (stC 12 y c)) 165 ∧ Trn p w w' := by
  have HB := Lib.hid hB
  clear hB
  go_enter Tryz.func84, Tryz.ntmps84
  go_wp2_with fail
  go_end0
  exact ⟨rfl, HB.out, Trn.refl _ _⟩
set_option maxHeartbeats 1000000 in
theorem store_13 {c : Nat → Int} {p : Nat} {w : World} (hB : Blk w p (rgA c) 165) {y : Int} (h0 : 0 ≤ y) (h1 : y < 4294967296) : Calls Tryz.prog 84 #[.pointer (some ⟨p, 0, none⟩), .int .i64 13, .int .u32 y] w fun e w' => e = .returned (.tuple #[]) ∧ Blk w' p (rgA (stC 13 y c)) 165 ∧ Trn p w w' := by
  have HB := Lib.hid hB
  clear hB
  go_enter Tryz.func84, Tryz.ntmps84
  go_wp2_with fail
  go_end0
  exact ⟨rfl, HB.out, Trn.refl _ _⟩
set_option maxHeartbeats 1000000 in
theorem store_14 {c : Nat → Int} {p : Nat} {w : World} (hB : Blk w p (rgA c) 165) {y : Int} (h0 : 0 ≤ y) (h1 : y < 4294967296) : Calls Tryz.prog 84 #[.pointer (some ⟨p, 0, none⟩), .int .i64 14, .int .u32 y] w fun e w' => e = .returned (.tuple #[]) ∧ Blk w' p (rgA (stC 14 y c)) 165 ∧ Trn p w w' := by
  have HB := Lib.hid hB
  clear hB
  go_enter Tryz.func84, Tryz.ntmps84
  go_wp2_with fail
  go_end0
  exact ⟨rfl, HB.out, Trn.refl _ _⟩
theorem store_k {c : Nat → Int} {p : Nat} {w : World} (hB : Blk w p (rgA c) 165) {y : Int} (h0 : 0 ≤ y) (h1 : y < 4294967296) {k : Nat} (hk : k < 15) : Calls Tryz.prog 84 #[.pointer (some ⟨p, 0, none⟩), .int .i64 k, .int .u32 y] w fun e w' => e = .returned (.tuple #[]) ∧ Blk w' p (rgA (stC k y c)) 165 ∧ Trn p w w' := by
  match k, hk with
  | 0, _ => exact store_0 hB h0 h1
  | 1, _ => exact store_1 hB h0 h1
  | 2, _ => exact store_2 hB h0 h1
  | 3, _ => exact store_3 hB h0 h1
  | 4, _ => exact store_4 hB h0 h1
  | 5, _ => exact store_5 hB h0 h1
  | 6, _ => exact store_6 hB h0 h1
  | 7, _ => exact store_7 hB h0 h1
  | 8, _ => exact store_8 hB h0 h1
  | 9, _ => exact store_9 hB h0 h1
  | 10, _ => exact store_10 hB h0 h1
  | 11, _ => exact store_11 hB h0 h1
  | 12, _ => exact store_12 hB h0 h1
  | 13, _ => exact store_13 hB h0 h1
  | 14, _ => exact store_14 hB h0 h1
theorem clrV_lt {x y : Int} (h0 : 0 ≤ x) (h1 : x < 16) (h2 : 0 ≤ y) (h3 : y < 4294967296) : 0 ≤ clrV x y ∧ clrV x y < 16 := by
  obtain ⟨a, rfl⟩ := Int.eq_ofNat_of_zero_le h0
  obtain ⟨b, rfl⟩ := Int.eq_ofNat_of_zero_le h2
  unfold clrV
  rw [u32_andNot_nat a b (by omega) (by omega)]
  have : a &&& (4294967295 - b) ≤ a := Nat.and_le_left
  omega
theorem ROk.st {c : Nat → Int} (h : ROk c) {y : Int} (h0 : 0 ≤ y) (h1 : y < 4294967296) (k : Nat) : ROk (stC k y c) := by
  unfold stC
  split
  · exact h.c0 (by omega)
  split
  · exact h.c1 (clrV_lt h.r1.1 h.r1.2 h0 h1)
  split
  · exact ⟨h.r0, h.r1, (by show 0 ≤ y % 16 ∧ y % 16 < 16; omega), h.r3, h.r4, h.r5, h.r6, h.r7, h.r8, h.r9, h.r10, h.r11, h.r12, h.r13, h.r14⟩
  split
  · exact ⟨h.r0, h.r1, h.r2, ⟨h0, h1⟩, h.r4, h.r5, h.r6, h.r7, h.r8, h.r9, h.r10, h.r11, h.r12, h.r13, h.r14⟩
  split
  · exact ⟨h.r0, h.r1, h.r2, h.r3, h.r4, h.r5, h.r6, ⟨h0, h1⟩, h.r8, h.r9, h.r10, h.r11, h.r12, h.r13, h.r14⟩
  split
  · unfold begint
    split
    · rename_i hy
      have hy' : 1 ≤ y ∧ y ≤ 64 := by unfold lenB at hy; simpa using hy
      exact ⟨h.r0, h.r1, h.r2, h.r3, hy', (by show (0 : Int) ≤ 0 ∧ 0 < y; omega), (by show (0 : Int) ≤ 0 ∧ 0 < y; omega), h.r7, h.r8, h.r9, h.r10, h.r11, h.r12, h.r13, h.r14⟩
    · exact h
  split
  · unfold beginr
    split
    · rename_i hy
      have hy' : 1 ≤ y ∧ y ≤ 64 := by unfold lenB at hy; simpa using hy
      exact ⟨h.r0, h.r1, h.r2, h.r3, h.r4, h.r5, h.r6, h.r7, hy', (by show (0 : Int) ≤ 0 ∧ 0 < y; omega), (by show (0 : Int) ≤ 0 ∧ 0 < y; omega), h.r11, h.r12, h.r13, h.r14⟩
    · exact h
  split
  · unfold reacht
    split
    · rename_i hy
      exact ⟨h.r0, h.r1, h.r2, h.r3, h.r4, h.r5, ⟨h0, hy⟩, h.r7, h.r8, h.r9, h.r10, h.r11, h.r12, h.r13, h.r14⟩
    · exact h
  split
  · unfold reachr
    split
    · rename_i hy
      exact ⟨h.r0, h.r1, h.r2, h.r3, h.r4, h.r5, h.r6, h.r7, h.r8, h.r9, ⟨h0, hy⟩, h.r11, h.r12, h.r13, h.r14⟩
    · exact h
  · exact h
end Go.Proofs.YtgcfmijkggpemaaGreat
set_option maxRecDepth 4000
set_option linter.unusedVariables false
set_option linter.unusedSimpArgs false
namespace Go.Proofs.YtgcfmijkggpemaaGreat
open Go.RowKit

set_option maxRecDepth 100000 in
set_option maxHeartbeats 4000000 in
theorem nic_c {c : Nat → Int} {p : Nat} {w : World} (hB : Blk w p (rgA c) 165) (hb : rgOk c) : Calls Tryz.prog 85 #[.pointer (some ⟨p, 0, none⟩)] w fun e w' => ∃ a k, e = .returned (ncV c (.slice a 6 k)) ∧ Hid (Row w' w.heap.size (.slice a 6 k) (macL c)) ∧ Grew w w' := by
  have hw0 : IntKind.i64.wrap (c 0) = c 0 := IntWalk.i64_in _ (by have := hb 0 (by decide); omega)
  have hw1 : IntKind.i64.wrap (c 1) = c 1 := IntWalk.i64_in _ (by have := hb 1 (by decide); omega)
  have hw2 : IntKind.i64.wrap (c 2) = c 2 := IntWalk.i64_in _ (by have := hb 2 (by decide); omega)
  have hw3 : IntKind.u64.wrap (c 3) = c 3 := IntWalk.u64_in _ (by have := hb 3 (by decide); omega)
  have hw4 : IntKind.i64.wrap (c 4) = c 4 := IntWalk.i64_in _ (by have := hb 4 (by decide); omega)
  have hw5 : IntKind.i64.wrap (c 5) = c 5 := IntWalk.i64_in _ (by have := hb 5 (by decide); omega)
  have hw6 : IntKind.i64.wrap (c 6) = c 6 := IntWalk.i64_in _ (by have := hb 6 (by decide); omega)
  have hw7 : IntKind.u64.wrap (c 7) = c 7 := IntWalk.u64_in _ (by have := hb 7 (by decide); omega)
  have hw8 : IntKind.i64.wrap (c 8) = c 8 := IntWalk.i64_in _ (by have := hb 8 (by decide); omega)
  have hw9 : IntKind.i64.wrap (c 9) = c 9 := IntWalk.i64_in _ (by have := hb 9 (by decide); omega)
  have hw10 : IntKind.i64.wrap (c 10) = c 10 := IntWalk.i64_in _ (by have := hb 10 (by decide); omega)
  have hw11 : IntKind.i64.wrap (c 11) = c 11 := IntWalk.i64_in _ (by have := hb 11 (by decide); omega)
  have hw12 : IntKind.i64.wrap (c 12) = c 12 := IntWalk.i64_in _ (by have := hb 12 (by decide); omega)
  have hM := fun (w : World) (h : Blk w p (rgA c) 165) => mac_c h (hb 13 (by decide)).1 (hb 13 (by decide)).2 (hb 14 (by decide)).1 (hb 14 (by decide)).2
  have HM := Lib.hid hM
  clear hM hb
  go_enter Tryz.func85, Tryz.ntmps85
  go_upto_region 1 with fail
  have kR : Blk (w.alloc (.cells zeroN 34)) w.heap.size zeroN 34 := Blk.new w zeroN 34 _ rfl
  have hB1 := hB.alloc (.cells zeroN 34)
  have hp := hB.lt
  have g0 : Grew w (w.alloc (.cells zeroN 34)) := (Grew.refl w).alloc _
  have hlt : w.heap.size ≤ (w.alloc (.cells zeroN 34)).heap.size := g0.size
  clear hB
  generalize (w.alloc (.cells zeroN 34)) = w0 at *
  generalize hG : w.heap.size = G at *
  have hne : p ≠ G := by omega
  have HG := Lib.hid hG
  clear hG
  replace kR := kR.drew
  replace g0 := g0.drew1
  replace hlt : G ≤ w0.drew.heap.size := hlt
  refine wp_region_held_drew (S := fun w' => Blk w' p (rgA c) 165) (by kernel_rfl) (hB1.drew) (fun hHeld => ?_)
  replace hHeld : Blk w0.drew p (rgA c) 165 := hHeld
  generalize w0.drew = wq0 at *
  refine wpAnyH_take (i := 0) (v := ?_) rfl (by kernel_rfl) (by kernel_rfl) (by kernel_rfl) (fun _ _ _ h => h) (Or.inl ⟨by rfl, ?_⟩) hHeld ?_
  rotate_left
  · intro wq hSw
    replace hSw : Blk wq p (rgA c) 165 := hSw
    go_simp
    try with_reducible rfl
  try simp only [List.getElem_toArray, List.getElem_cons_succ, List.getElem_cons_zero, Act.put, List.setIfInBounds_toArray, List.set_cons_zero, List.set_cons_succ]
  refine wpAnyH_take (i := 1) (v := ?_) rfl (by kernel_rfl) (by kernel_rfl) (by kernel_rfl) (fun _ _ _ h => h) (Or.inl ⟨by rfl, ?_⟩) hHeld ?_
  rotate_left
  · intro wq hSw
    replace hSw : Blk wq p (rgA c) 165 := hSw
    go_simp
    try with_reducible rfl
  try simp only [List.getElem_toArray, List.getElem_cons_succ, List.getElem_cons_zero, Act.put, List.setIfInBounds_toArray, List.set_cons_zero, List.set_cons_succ]
  refine wpAnyH_take (i := 2) (v := ?_) rfl (by kernel_rfl) (by kernel_rfl) (by kernel_rfl) (fun _ _ _ h => h) (Or.inl ⟨by rfl, ?_⟩) hHeld ?_
  rotate_left
  · intro wq hSw
    replace hSw : Blk wq p (rgA c) 165 := hSw
    go_simp
    try with_reducible rfl
  try simp only [List.getElem_toArray, List.getElem_cons_succ, List.getElem_cons_zero, Act.put, List.setIfInBounds_toArray, List.set_cons_zero, List.set_cons_succ]
  refine wpAnyH_take (i := 3) (v := ?_) rfl (by kernel_rfl) (by kernel_rfl) (by kernel_rfl) (fun _ _ _ h => h) (Or.inl ⟨by rfl, ?_⟩) hHeld ?_
  rotate_left
  · intro wq hSw
    replace hSw : Blk wq p (rgA c) 165 := hSw
    have z0 := hSw.rgC 0 (by decide)
    go_simp
    try with_reducible rfl
  try simp only [List.getElem_toArray, List.getElem_cons_succ, List.getElem_cons_zero, Act.put, List.setIfInBounds_toArray, List.set_cons_zero, List.set_cons_succ]
  refine wpAnyH_take (i := 4) (v := ?_) rfl (by kernel_rfl) (by kernel_rfl) (by kernel_rfl) (fun _ _ _ h => h) (Or.inl ⟨by rfl, ?_⟩) hHeld ?_
  rotate_left
  · intro wq hSw
    replace hSw : Blk wq p (rgA c) 165 := hSw
    go_simp
    try with_reducible rfl
  try simp only [List.getElem_toArray, List.getElem_cons_succ, List.getElem_cons_zero, Act.put, List.setIfInBounds_toArray, List.set_cons_zero, List.set_cons_succ]
  refine wpAnyH_take (i := 5) (v := ?_) rfl (by kernel_rfl) (by kernel_rfl) (by kernel_rfl) (fun _ _ _ h => h) (Or.inl ⟨by rfl, ?_⟩) hHeld ?_
  rotate_left
  · intro wq hSw
    replace hSw : Blk wq p (rgA c) 165 := hSw
    go_simp
    try with_reducible rfl
  try simp only [List.getElem_toArray, List.getElem_cons_succ, List.getElem_cons_zero, Act.put, List.setIfInBounds_toArray, List.set_cons_zero, List.set_cons_succ]
  refine wpAnyH_take (i := 6) (v := ?_) rfl (by kernel_rfl) (by kernel_rfl) (by kernel_rfl) (fun _ _ _ h => h) (Or.inl ⟨by rfl, ?_⟩) hHeld ?_
  rotate_left
  · intro wq hSw
    replace hSw : Blk wq p (rgA c) 165 := hSw
    go_simp
    try with_reducible rfl
  try simp only [List.getElem_toArray, List.getElem_cons_succ, List.getElem_cons_zero, Act.put, List.setIfInBounds_toArray, List.set_cons_zero, List.set_cons_succ]
  refine wpAnyH_take (i := 7) (v := ?_) rfl (by kernel_rfl) (by kernel_rfl) (by kernel_rfl) (fun _ _ _ h => h) (Or.inl ⟨by rfl, ?_⟩) hHeld ?_
  rotate_left
  · intro wq hSw
    replace hSw : Blk wq p (rgA c) 165 := hSw
    go_simp
    try with_reducible rfl
  try simp only [List.getElem_toArray, List.getElem_cons_succ, List.getElem_cons_zero, Act.put, List.setIfInBounds_toArray, List.set_cons_zero, List.set_cons_succ]
  refine wpAnyH_take (i := 8) (v := ?_) rfl (by kernel_rfl) (by kernel_rfl) (by kernel_rfl) (fun _ _ _ h => h) (Or.inl ⟨by rfl, ?_⟩) hHeld ?_
  rotate_left
  · intro wq hSw
    replace hSw : Blk wq p (rgA c) 165 := hSw
    have z0 := hSw.rgC 1 (by decide)
    go_simp
    try with_reducible rfl
  try simp only [List.getElem_toArray, List.getElem_cons_succ, List.getElem_cons_zero, Act.put, List.setIfInBounds_toArray, List.set_cons_zero, List.set_cons_succ]
  refine wpAnyH_take (i := 9) (v := ?_) rfl (by kernel_rfl) (by kernel_rfl) (by kernel_rfl) (fun _ _ _ h => h) (Or.inl ⟨by rfl, ?_⟩) hHeld ?_
  rotate_left
  · intro wq hSw
    replace hSw : Blk wq p (rgA c) 165 := hSw
    go_simp
    try with_reducible rfl
  try simp only [List.getElem_toArray, List.getElem_cons_succ, List.getElem_cons_zero, Act.put, List.setIfInBounds_toArray, List.set_cons_zero, List.set_cons_succ]
  refine wpAnyH_take (i := 10) (v := ?_) rfl (by kernel_rfl) (by kernel_rfl) (by kernel_rfl) (fun _ _ _ h => h) (Or.inl ⟨by rfl, ?_⟩) hHeld ?_
  rotate_left
  · intro wq hSw
    replace hSw : Blk wq p (rgA c) 165 := hSw
    go_simp
    try with_reducible rfl
  try simp only [List.getElem_toArray, List.getElem_cons_succ, List.getElem_cons_zero, Act.put, List.setIfInBounds_toArray, List.set_cons_zero, List.set_cons_succ]
  refine wpAnyH_take (i := 11) (v := ?_) rfl (by kernel_rfl) (by kernel_rfl) (by kernel_rfl) (fun _ _ _ h => h) (Or.inl ⟨by rfl, ?_⟩) hHeld ?_
  rotate_left
  · intro wq hSw
    replace hSw : Blk wq p (rgA c) 165 := hSw
    go_simp
    try with_reducible rfl
  try simp only [List.getElem_toArray, List.getElem_cons_succ, List.getElem_cons_zero, Act.put, List.setIfInBounds_toArray, List.set_cons_zero, List.set_cons_succ]
  refine wpAnyH_take (i := 12) (v := ?_) rfl (by kernel_rfl) (by kernel_rfl) (by kernel_rfl) (fun _ _ _ h => h) (Or.inl ⟨by rfl, ?_⟩) hHeld ?_
  rotate_left
  · intro wq hSw
    replace hSw : Blk wq p (rgA c) 165 := hSw
    go_simp
    try with_reducible rfl
  try simp only [List.getElem_toArray, List.getElem_cons_succ, List.getElem_cons_zero, Act.put, List.setIfInBounds_toArray, List.set_cons_zero, List.set_cons_succ]
  refine wpAnyH_take (i := 13) (v := ?_) rfl (by kernel_rfl) (by kernel_rfl) (by kernel_rfl) (fun _ _ _ h => h) (Or.inl ⟨by rfl, ?_⟩) hHeld ?_
  rotate_left
  · intro wq hSw
    replace hSw : Blk wq p (rgA c) 165 := hSw
    have z0 := hSw.rgC 2 (by decide)
    go_simp
    try with_reducible rfl
  try simp only [List.getElem_toArray, List.getElem_cons_succ, List.getElem_cons_zero, Act.put, List.setIfInBounds_toArray, List.set_cons_zero, List.set_cons_succ]
  refine wpAnyH_take (i := 14) (v := ?_) rfl (by kernel_rfl) (by kernel_rfl) (by kernel_rfl) (fun _ _ _ h => h) (Or.inl ⟨by rfl, ?_⟩) hHeld ?_
  rotate_left
  · intro wq hSw
    replace hSw : Blk wq p (rgA c) 165 := hSw
    go_simp
    try with_reducible rfl
  try simp only [List.getElem_toArray, List.getElem_cons_succ, List.getElem_cons_zero, Act.put, List.setIfInBounds_toArray, List.set_cons_zero, List.set_cons_succ]
  refine wpAnyH_take (i := 15) (v := ?_) rfl (by kernel_rfl) (by kernel_rfl) (by kernel_rfl) (fun _ _ _ h => h) (Or.inl ⟨by rfl, ?_⟩) hHeld ?_
  rotate_left
  · intro wq hSw
    replace hSw : Blk wq p (rgA c) 165 := hSw
    go_simp
    try with_reducible rfl
  try simp only [List.getElem_toArray, List.getElem_cons_succ, List.getElem_cons_zero, Act.put, List.setIfInBounds_toArray, List.set_cons_zero, List.set_cons_succ]
  refine wpAnyH_take (i := 16) (v := ?_) rfl (by kernel_rfl) (by kernel_rfl) (by kernel_rfl) (fun _ _ _ h => h) (Or.inl ⟨by rfl, ?_⟩) hHeld ?_
  rotate_left
  · intro wq hSw
    replace hSw : Blk wq p (rgA c) 165 := hSw
    go_simp
    try with_reducible rfl
  try simp only [List.getElem_toArray, List.getElem_cons_succ, List.getElem_cons_zero, Act.put, List.setIfInBounds_toArray, List.set_cons_zero, List.set_cons_succ]
  refine wpAnyH_take (i := 17) (v := ?_) rfl (by kernel_rfl) (by kernel_rfl) (by kernel_rfl) (fun _ _ _ h => h) (Or.inl ⟨by rfl, ?_⟩) hHeld ?_
  rotate_left
  · intro wq hSw
    replace hSw : Blk wq p (rgA c) 165 := hSw
    go_simp
    try with_reducible rfl
  try simp only [List.getElem_toArray, List.getElem_cons_succ, List.getElem_cons_zero, Act.put, List.setIfInBounds_toArray, List.set_cons_zero, List.set_cons_succ]
  refine wpAnyH_take (i := 18) (v := ?_) rfl (by kernel_rfl) (by kernel_rfl) (by kernel_rfl) (fun _ _ _ h => h) (Or.inl ⟨by rfl, ?_⟩) hHeld ?_
  rotate_left
  · intro wq hSw
    replace hSw : Blk wq p (rgA c) 165 := hSw
    have z0 := hSw.rgC 3 (by decide)
    go_simp
    try with_reducible rfl
  try simp only [List.getElem_toArray, List.getElem_cons_succ, List.getElem_cons_zero, Act.put, List.setIfInBounds_toArray, List.set_cons_zero, List.set_cons_succ]
  refine wpAnyH_take (i := 19) (v := ?_) rfl (by kernel_rfl) (by kernel_rfl) (by kernel_rfl) (fun _ _ _ h => h) (Or.inl ⟨by rfl, ?_⟩) hHeld ?_
  rotate_left
  · intro wq hSw
    replace hSw : Blk wq p (rgA c) 165 := hSw
    go_simp
    try with_reducible rfl
  try simp only [List.getElem_toArray, List.getElem_cons_succ, List.getElem_cons_zero, Act.put, List.setIfInBounds_toArray, List.set_cons_zero, List.set_cons_succ]
  refine wpAnyH_take (i := 20) (v := ?_) rfl (by kernel_rfl) (by kernel_rfl) (by kernel_rfl) (fun _ _ _ h => h) (Or.inl ⟨by rfl, ?_⟩) hHeld ?_
  rotate_left
  · intro wq hSw
    replace hSw : Blk wq p (rgA c) 165 := hSw
    go_simp
    try with_reducible rfl
  try simp only [List.getElem_toArray, List.getElem_cons_succ, List.getElem_cons_zero, Act.put, List.setIfInBounds_toArray, List.set_cons_zero, List.set_cons_succ]
  refine wpAnyH_take (i := 21) (v := ?_) rfl (by kernel_rfl) (by kernel_rfl) (by kernel_rfl) (fun _ _ _ h => h) (Or.inl ⟨by rfl, ?_⟩) hHeld ?_
  rotate_left
  · intro wq hSw
    replace hSw : Blk wq p (rgA c) 165 := hSw
    go_simp
    try with_reducible rfl
  try simp only [List.getElem_toArray, List.getElem_cons_succ, List.getElem_cons_zero, Act.put, List.setIfInBounds_toArray, List.set_cons_zero, List.set_cons_succ]
  refine wpAnyH_take (i := 22) (v := ?_) rfl (by kernel_rfl) (by kernel_rfl) (by kernel_rfl) (fun _ _ _ h => h) (Or.inl ⟨by rfl, ?_⟩) hHeld ?_
  rotate_left
  · intro wq hSw
    replace hSw : Blk wq p (rgA c) 165 := hSw
    go_simp
    try with_reducible rfl
  try simp only [List.getElem_toArray, List.getElem_cons_succ, List.getElem_cons_zero, Act.put, List.setIfInBounds_toArray, List.set_cons_zero, List.set_cons_succ]
  refine wpAnyH_take (i := 23) (v := ?_) rfl (by kernel_rfl) (by kernel_rfl) (by kernel_rfl) (fun _ _ _ h => h) (Or.inl ⟨by rfl, ?_⟩) hHeld ?_
  rotate_left
  · intro wq hSw
    replace hSw : Blk wq p (rgA c) 165 := hSw
    have z0 := hSw.rgC 4 (by decide)
    go_simp
    try with_reducible rfl
  try simp only [List.getElem_toArray, List.getElem_cons_succ, List.getElem_cons_zero, Act.put, List.setIfInBounds_toArray, List.set_cons_zero, List.set_cons_succ]
  refine wpAnyH_take (i := 24) (v := ?_) rfl (by kernel_rfl) (by kernel_rfl) (by kernel_rfl) (fun _ _ _ h => h) (Or.inl ⟨by rfl, ?_⟩) hHeld ?_
  rotate_left
  · intro wq hSw
    replace hSw : Blk wq p (rgA c) 165 := hSw
    go_simp
    try with_reducible rfl
  try simp only [List.getElem_toArray, List.getElem_cons_succ, List.getElem_cons_zero, Act.put, List.setIfInBounds_toArray, List.set_cons_zero, List.set_cons_succ]
  refine wpAnyH_take (i := 25) (v := ?_) rfl (by kernel_rfl) (by kernel_rfl) (by kernel_rfl) (fun _ _ _ h => h) (Or.inl ⟨by rfl, ?_⟩) hHeld ?_
  rotate_left
  · intro wq hSw
    replace hSw : Blk wq p (rgA c) 165 := hSw
    go_simp
    try with_reducible rfl
  try simp only [List.getElem_toArray, List.getElem_cons_succ, List.getElem_cons_zero, Act.put, List.setIfInBounds_toArray, List.set_cons_zero, List.set_cons_succ]
  refine wpAnyH_take (i := 26) (v := ?_) rfl (by kernel_rfl) (by kernel_rfl) (by kernel_rfl) (fun _ _ _ h => h) (Or.inl ⟨by rfl, ?_⟩) hHeld ?_
  rotate_left
  · intro wq hSw
    replace hSw : Blk wq p (rgA c) 165 := hSw
    go_simp
    try with_reducible rfl
  try simp only [List.getElem_toArray, List.getElem_cons_succ, List.getElem_cons_zero, Act.put, List.setIfInBounds_toArray, List.set_cons_zero, List.set_cons_succ]
  refine wpAnyH_take (i := 27) (v := ?_) rfl (by kernel_rfl) (by kernel_rfl) (by kernel_rfl) (fun _ _ _ h => h) (Or.inl ⟨by rfl, ?_⟩) hHeld ?_
  rotate_left
  · intro wq hSw
    replace hSw : Blk wq p (rgA c) 165 := hSw
    go_simp
    try with_reducible rfl
  try simp only [List.getElem_toArray, List.getElem_cons_succ, List.getElem_cons_zero, Act.put, List.setIfInBounds_toArray, List.set_cons_zero, List.set_cons_succ]
  refine wpAnyH_take (i := 28) (v := ?_) rfl (by kernel_rfl) (by kernel_rfl) (by kernel_rfl) (fun _ _ _ h => h) (Or.inl ⟨by rfl, ?_⟩) hHeld ?_
  rotate_left
  · intro wq hSw
    replace hSw : Blk wq p (rgA c) 165 := hSw
    have z0 := hSw.rgC 5 (by decide)
    go_simp
    try with_reducible rfl
  try simp only [List.getElem_toArray, List.getElem_cons_succ, List.getElem_cons_zero, Act.put, List.setIfInBounds_toArray, List.set_cons_zero, List.set_cons_succ]
  refine wpAnyH_take (i := 29) (v := ?_) rfl (by kernel_rfl) (by kernel_rfl) (by kernel_rfl) (fun _ _ _ h => h) (Or.inl ⟨by rfl, ?_⟩) hHeld ?_
  rotate_left
  · intro wq hSw
    replace hSw : Blk wq p (rgA c) 165 := hSw
    go_simp
    try with_reducible rfl
  try simp only [List.getElem_toArray, List.getElem_cons_succ, List.getElem_cons_zero, Act.put, List.setIfInBounds_toArray, List.set_cons_zero, List.set_cons_succ]
  refine wpAnyH_take (i := 30) (v := ?_) rfl (by kernel_rfl) (by kernel_rfl) (by kernel_rfl) (fun _ _ _ h => h) (Or.inl ⟨by rfl, ?_⟩) hHeld ?_
  rotate_left
  · intro wq hSw
    replace hSw : Blk wq p (rgA c) 165 := hSw
    go_simp
    try with_reducible rfl
  try simp only [List.getElem_toArray, List.getElem_cons_succ, List.getElem_cons_zero, Act.put, List.setIfInBounds_toArray, List.set_cons_zero, List.set_cons_succ]
  refine wpAnyH_take (i := 31) (v := ?_) rfl (by kernel_rfl) (by kernel_rfl) (by kernel_rfl) (fun _ _ _ h => h) (Or.inl ⟨by rfl, ?_⟩) hHeld ?_
  rotate_left
  · intro wq hSw
    replace hSw : Blk wq p (rgA c) 165 := hSw
    go_simp
    try with_reducible rfl
  try simp only [List.getElem_toArray, List.getElem_cons_succ, List.getElem_cons_zero, Act.put, List.setIfInBounds_toArray, List.set_cons_zero, List.set_cons_succ]
  refine wpAnyH_take (i := 32) (v := ?_) rfl (by kernel_rfl) (by kernel_rfl) (by kernel_rfl) (fun _ _ _ h => h) (Or.inl ⟨by rfl, ?_⟩) hHeld ?_
  rotate_left
  · intro wq hSw
    replace hSw : Blk wq p (rgA c) 165 := hSw
    go_simp
    try with_reducible rfl
  try simp only [List.getElem_toArray, List.getElem_cons_succ, List.getElem_cons_zero, Act.put, List.setIfInBounds_toArray, List.set_cons_zero, List.set_cons_succ]
  refine wpAnyH_take (i := 33) (v := ?_) rfl (by kernel_rfl) (by kernel_rfl) (by kernel_rfl) (fun _ _ _ h => h) (Or.inl ⟨by rfl, ?_⟩) hHeld ?_
  rotate_left
  · intro wq hSw
    replace hSw : Blk wq p (rgA c) 165 := hSw
    have z0 := hSw.rgC 6 (by decide)
    go_simp
    try with_reducible rfl
  try simp only [List.getElem_toArray, List.getElem_cons_succ, List.getElem_cons_zero, Act.put, List.setIfInBounds_toArray, List.set_cons_zero, List.set_cons_succ]
  refine wpAnyH_take (i := 34) (v := ?_) rfl (by kernel_rfl) (by kernel_rfl) (by kernel_rfl) (fun _ _ _ h => h) (Or.inl ⟨by rfl, ?_⟩) hHeld ?_
  rotate_left
  · intro wq hSw
    replace hSw : Blk wq p (rgA c) 165 := hSw
    go_simp
    try with_reducible rfl
  try simp only [List.getElem_toArray, List.getElem_cons_succ, List.getElem_cons_zero, Act.put, List.setIfInBounds_toArray, List.set_cons_zero, List.set_cons_succ]
  refine wpAnyH_take (i := 35) (v := ?_) rfl (by kernel_rfl) (by kernel_rfl) (by kernel_rfl) (fun _ _ _ h => h) (Or.inl ⟨by rfl, ?_⟩) hHeld ?_
  rotate_left
  · intro wq hSw
    replace hSw : Blk wq p (rgA c) 165 := hSw
    go_simp
    try with_reducible rfl
  try simp only [List.getElem_toArray, List.getElem_cons_succ, List.getElem_cons_zero, Act.put, List.setIfInBounds_toArray, List.set_cons_zero, List.set_cons_succ]
  refine wpAnyH_take (i := 36) (v := ?_) rfl (by kernel_rfl) (by kernel_rfl) (by kernel_rfl) (fun _ _ _ h => h) (Or.inl ⟨by rfl, ?_⟩) hHeld ?_
  rotate_left
  · intro wq hSw
    replace hSw : Blk wq p (rgA c) 165 := hSw
    go_simp
    try with_reducible rfl
  try simp only [List.getElem_toArray, List.getElem_cons_succ, List.getElem_cons_zero, Act.put, List.setIfInBounds_toArray, List.set_cons_zero, List.set_cons_succ]
  refine wpAnyH_take (i := 37) (v := ?_) rfl (by kernel_rfl) (by kernel_rfl) (by kernel_rfl) (fun _ _ _ h => h) (Or.inl ⟨by rfl, ?_⟩) hHeld ?_
  rotate_left
  · intro wq hSw
    replace hSw : Blk wq p (rgA c) 165 := hSw
    go_simp
    try with_reducible rfl
  try simp only [List.getElem_toArray, List.getElem_cons_succ, List.getElem_cons_zero, Act.put, List.setIfInBounds_toArray, List.set_cons_zero, List.set_cons_succ]
  refine wpAnyH_take (i := 38) (v := ?_) rfl (by kernel_rfl) (by kernel_rfl) (by kernel_rfl) (fun _ _ _ h => h) (Or.inl ⟨by rfl, ?_⟩) hHeld ?_
  rotate_left
  · intro wq hSw
    replace hSw : Blk wq p (rgA c) 165 := hSw
    have z0 := hSw.rgC 7 (by decide)
    go_simp
    try with_reducible rfl
  try simp only [List.getElem_toArray, List.getElem_cons_succ, List.getElem_cons_zero, Act.put, List.setIfInBounds_toArray, List.set_cons_zero, List.set_cons_succ]
  refine wpAnyH_take (i := 39) (v := ?_) rfl (by kernel_rfl) (by kernel_rfl) (by kernel_rfl) (fun _ _ _ h => h) (Or.inl ⟨by rfl, ?_⟩) hHeld ?_
  rotate_left
  · intro wq hSw
    replace hSw : Blk wq p (rgA c) 165 := hSw
    go_simp
    try with_reducible rfl
  try simp only [List.getElem_toArray, List.getElem_cons_succ, List.getElem_cons_zero, Act.put, List.setIfInBounds_toArray, List.set_cons_zero, List.set_cons_succ]
  refine wpAnyH_take (i := 40) (v := ?_) rfl (by kernel_rfl) (by kernel_rfl) (by kernel_rfl) (fun _ _ _ h => h) (Or.inl ⟨by rfl, ?_⟩) hHeld ?_
  rotate_left
  · intro wq hSw
    replace hSw : Blk wq p (rgA c) 165 := hSw
    go_simp
    try with_reducible rfl
  try simp only [List.getElem_toArray, List.getElem_cons_succ, List.getElem_cons_zero, Act.put, List.setIfInBounds_toArray, List.set_cons_zero, List.set_cons_succ]
  refine wpAnyH_take (i := 41) (v := ?_) rfl (by kernel_rfl) (by kernel_rfl) (by kernel_rfl) (fun _ _ _ h => h) (Or.inl ⟨by rfl, ?_⟩) hHeld ?_
  rotate_left
  · intro wq hSw
    replace hSw : Blk wq p (rgA c) 165 := hSw
    go_simp
    try with_reducible rfl
  try simp only [List.getElem_toArray, List.getElem_cons_succ, List.getElem_cons_zero, Act.put, List.setIfInBounds_toArray, List.set_cons_zero, List.set_cons_succ]
  refine wpAnyH_take (i := 42) (v := ?_) rfl (by kernel_rfl) (by kernel_rfl) (by kernel_rfl) (fun _ _ _ h => h) (Or.inl ⟨by rfl, ?_⟩) hHeld ?_
  rotate_left
  · intro wq hSw
    replace hSw : Blk wq p (rgA c) 165 := hSw
    go_simp
    try with_reducible rfl
  try simp only [List.getElem_toArray, List.getElem_cons_succ, List.getElem_cons_zero, Act.put, List.setIfInBounds_toArray, List.set_cons_zero, List.set_cons_succ]
  refine wpAnyH_take (i := 43) (v := ?_) rfl (by kernel_rfl) (by kernel_rfl) (by kernel_rfl) (fun _ _ _ h => h) (Or.inl ⟨by rfl, ?_⟩) hHeld ?_
  rotate_left
  · intro wq hSw
    replace hSw : Blk wq p (rgA c) 165 := hSw
    have z0 := hSw.rgC 8 (by decide)
    go_simp
    try with_reducible rfl
  try simp only [List.getElem_toArray, List.getElem_cons_succ, List.getElem_cons_zero, Act.put, List.setIfInBounds_toArray, List.set_cons_zero, List.set_cons_succ]
  refine wpAnyH_take (i := 44) (v := ?_) rfl (by kernel_rfl) (by kernel_rfl) (by kernel_rfl) (fun _ _ _ h => h) (Or.inl ⟨by rfl, ?_⟩) hHeld ?_
  rotate_left
  · intro wq hSw
    replace hSw : Blk wq p (rgA c) 165 := hSw
    go_simp
    try with_reducible rfl
  try simp only [List.getElem_toArray, List.getElem_cons_succ, List.getElem_cons_zero, Act.put, List.setIfInBounds_toArray, List.set_cons_zero, List.set_cons_succ]
  refine wpAnyH_take (i := 45) (v := ?_) rfl (by kernel_rfl) (by kernel_rfl) (by kernel_rfl) (fun _ _ _ h => h) (Or.inl ⟨by rfl, ?_⟩) hHeld ?_
  rotate_left
  · intro wq hSw
    replace hSw : Blk wq p (rgA c) 165 := hSw
    go_simp
    try with_reducible rfl
  try simp only [List.getElem_toArray, List.getElem_cons_succ, List.getElem_cons_zero, Act.put, List.setIfInBounds_toArray, List.set_cons_zero, List.set_cons_succ]
  refine wpAnyH_take (i := 46) (v := ?_) rfl (by kernel_rfl) (by kernel_rfl) (by kernel_rfl) (fun _ _ _ h => h) (Or.inl ⟨by rfl, ?_⟩) hHeld ?_
  rotate_left
  · intro wq hSw
    replace hSw : Blk wq p (rgA c) 165 := hSw
    go_simp
    try with_reducible rfl
  try simp only [List.getElem_toArray, List.getElem_cons_succ, List.getElem_cons_zero, Act.put, List.setIfInBounds_toArray, List.set_cons_zero, List.set_cons_succ]
  refine wpAnyH_take (i := 47) (v := ?_) rfl (by kernel_rfl) (by kernel_rfl) (by kernel_rfl) (fun _ _ _ h => h) (Or.inl ⟨by rfl, ?_⟩) hHeld ?_
  rotate_left
  · intro wq hSw
    replace hSw : Blk wq p (rgA c) 165 := hSw
    go_simp
    try with_reducible rfl
  try simp only [List.getElem_toArray, List.getElem_cons_succ, List.getElem_cons_zero, Act.put, List.setIfInBounds_toArray, List.set_cons_zero, List.set_cons_succ]
  refine wpAnyH_take (i := 48) (v := ?_) rfl (by kernel_rfl) (by kernel_rfl) (by kernel_rfl) (fun _ _ _ h => h) (Or.inl ⟨by rfl, ?_⟩) hHeld ?_
  rotate_left
  · intro wq hSw
    replace hSw : Blk wq p (rgA c) 165 := hSw
    have z0 := hSw.rgC 9 (by decide)
    go_simp
    try with_reducible rfl
  try simp only [List.getElem_toArray, List.getElem_cons_succ, List.getElem_cons_zero, Act.put, List.setIfInBounds_toArray, List.set_cons_zero, List.set_cons_succ]
  refine wpAnyH_take (i := 49) (v := ?_) rfl (by kernel_rfl) (by kernel_rfl) (by kernel_rfl) (fun _ _ _ h => h) (Or.inl ⟨by rfl, ?_⟩) hHeld ?_
  rotate_left
  · intro wq hSw
    replace hSw : Blk wq p (rgA c) 165 := hSw
    go_simp
    try with_reducible rfl
  try simp only [List.getElem_toArray, List.getElem_cons_succ, List.getElem_cons_zero, Act.put, List.setIfInBounds_toArray, List.set_cons_zero, List.set_cons_succ]
  refine wpAnyH_take (i := 50) (v := ?_) rfl (by kernel_rfl) (by kernel_rfl) (by kernel_rfl) (fun _ _ _ h => h) (Or.inl ⟨by rfl, ?_⟩) hHeld ?_
  rotate_left
  · intro wq hSw
    replace hSw : Blk wq p (rgA c) 165 := hSw
    go_simp
    try with_reducible rfl
  try simp only [List.getElem_toArray, List.getElem_cons_succ, List.getElem_cons_zero, Act.put, List.setIfInBounds_toArray, List.set_cons_zero, List.set_cons_succ]
  refine wpAnyH_take (i := 51) (v := ?_) rfl (by kernel_rfl) (by kernel_rfl) (by kernel_rfl) (fun _ _ _ h => h) (Or.inl ⟨by rfl, ?_⟩) hHeld ?_
  rotate_left
  · intro wq hSw
    replace hSw : Blk wq p (rgA c) 165 := hSw
    go_simp
    try with_reducible rfl
  try simp only [List.getElem_toArray, List.getElem_cons_succ, List.getElem_cons_zero, Act.put, List.setIfInBounds_toArray, List.set_cons_zero, List.set_cons_succ]
  refine wpAnyH_take (i := 52) (v := ?_) rfl (by kernel_rfl) (by kernel_rfl) (by kernel_rfl) (fun _ _ _ h => h) (Or.inl ⟨by rfl, ?_⟩) hHeld ?_
  rotate_left
  · intro wq hSw
    replace hSw : Blk wq p (rgA c) 165 := hSw
    go_simp
    try with_reducible rfl
  try simp only [List.getElem_toArray, List.getElem_cons_succ, List.getElem_cons_zero, Act.put, List.setIfInBounds_toArray, List.set_cons_zero, List.set_cons_succ]
  refine wpAnyH_take (i := 53) (v := ?_) rfl (by kernel_rfl) (by kernel_rfl) (by kernel_rfl) (fun _ _ _ h => h) (Or.inl ⟨by rfl, ?_⟩) hHeld ?_
  rotate_left
  · intro wq hSw
    replace hSw : Blk wq p (rgA c) 165 := hSw
    have z0 := hSw.rgC 10 (by decide)
    go_simp
    try with_reducible rfl
  try simp only [List.getElem_toArray, List.getElem_cons_succ, List.getElem_cons_zero, Act.put, List.setIfInBounds_toArray, List.set_cons_zero, List.set_cons_succ]
  refine wpAnyH_take (i := 54) (v := ?_) rfl (by kernel_rfl) (by kernel_rfl) (by kernel_rfl) (fun _ _ _ h => h) (Or.inl ⟨by rfl, ?_⟩) hHeld ?_
  rotate_left
  · intro wq hSw
    replace hSw : Blk wq p (rgA c) 165 := hSw
    go_simp
    try with_reducible rfl
  try simp only [List.getElem_toArray, List.getElem_cons_succ, List.getElem_cons_zero, Act.put, List.setIfInBounds_toArray, List.set_cons_zero, List.set_cons_succ]
  refine wpAnyH_take (i := 55) (v := ?_) rfl (by kernel_rfl) (by kernel_rfl) (by kernel_rfl) (fun _ _ _ h => h) (Or.inl ⟨by rfl, ?_⟩) hHeld ?_
  rotate_left
  · intro wq hSw
    replace hSw : Blk wq p (rgA c) 165 := hSw
    go_simp
    try with_reducible rfl
  try simp only [List.getElem_toArray, List.getElem_cons_succ, List.getElem_cons_zero, Act.put, List.setIfInBounds_toArray, List.set_cons_zero, List.set_cons_succ]
  refine wpAnyH_take (i := 56) (v := ?_) rfl (by kernel_rfl) (by kernel_rfl) (by kernel_rfl) (fun _ _ _ h => h) (Or.inl ⟨by rfl, ?_⟩) hHeld ?_
  rotate_left
  · intro wq hSw
    replace hSw : Blk wq p (rgA c) 165 := hSw
    go_simp
    try with_reducible rfl
  try simp only [List.getElem_toArray, List.getElem_cons_succ, List.getElem_cons_zero, Act.put, List.setIfInBounds_toArray, List.set_cons_zero, List.set_cons_succ]
  refine wpAnyH_take (i := 57) (v := ?_) rfl (by kernel_rfl) (by kernel_rfl) (by kernel_rfl) (fun _ _ _ h => h) (Or.inl ⟨by rfl, ?_⟩) hHeld ?_
  rotate_left
  · intro wq hSw
    replace hSw : Blk wq p (rgA c) 165 := hSw
    go_simp
    try with_reducible rfl
  try simp only [List.getElem_toArray, List.getElem_cons_succ, List.getElem_cons_zero, Act.put, List.setIfInBounds_toArray, List.set_cons_zero, List.set_cons_succ]
  refine wpAnyH_take (i := 58) (v := ?_) rfl (by kernel_rfl) (by kernel_rfl) (by kernel_rfl) (fun _ _ _ h => h) (Or.inl ⟨by rfl, ?_⟩) hHeld ?_
  rotate_left
  · intro wq hSw
    replace hSw : Blk wq p (rgA c) 165 := hSw
    have z0 := hSw.rgC 11 (by decide)
    go_simp
    try with_reducible rfl
  try simp only [List.getElem_toArray, List.getElem_cons_succ, List.getElem_cons_zero, Act.put, List.setIfInBounds_toArray, List.set_cons_zero, List.set_cons_succ]
  refine wpAnyH_take (i := 59) (v := ?_) rfl (by kernel_rfl) (by kernel_rfl) (by kernel_rfl) (fun _ _ _ h => h) (Or.inl ⟨by rfl, ?_⟩) hHeld ?_
  rotate_left
  · intro wq hSw
    replace hSw : Blk wq p (rgA c) 165 := hSw
    go_simp
    try with_reducible rfl
  try simp only [List.getElem_toArray, List.getElem_cons_succ, List.getElem_cons_zero, Act.put, List.setIfInBounds_toArray, List.set_cons_zero, List.set_cons_succ]
  refine wpAnyH_take (i := 60) (v := ?_) rfl (by kernel_rfl) (by kernel_rfl) (by kernel_rfl) (fun _ _ _ h => h) (Or.inl ⟨by rfl, ?_⟩) hHeld ?_
  rotate_left
  · intro wq hSw
    replace hSw : Blk wq p (rgA c) 165 := hSw
    go_simp
    try with_reducible rfl
  try simp only [List.getElem_toArray, List.getElem_cons_succ, List.getElem_cons_zero, Act.put, List.setIfInBounds_toArray, List.set_cons_zero, List.set_cons_succ]
  refine wpAnyH_take (i := 61) (v := ?_) rfl (by kernel_rfl) (by kernel_rfl) (by kernel_rfl) (fun _ _ _ h => h) (Or.inl ⟨by rfl, ?_⟩) hHeld ?_
  rotate_left
  · intro wq hSw
    replace hSw : Blk wq p (rgA c) 165 := hSw
    go_simp
    try with_reducible rfl
  try simp only [List.getElem_toArray, List.getElem_cons_succ, List.getElem_cons_zero, Act.put, List.setIfInBounds_toArray, List.set_cons_zero, List.set_cons_succ]
  refine wpAnyH_take (i := 62) (v := ?_) rfl (by kernel_rfl) (by kernel_rfl) (by kernel_rfl) (fun _ _ _ h => h) (Or.inl ⟨by rfl, ?_⟩) hHeld ?_
  rotate_left
  · intro wq hSw
    replace hSw : Blk wq p (rgA c) 165 := hSw
    go_simp
    try with_reducible rfl
  try simp only [List.getElem_toArray, List.getElem_cons_succ, List.getElem_cons_zero, Act.put, List.setIfInBounds_toArray, List.set_cons_zero, List.set_cons_succ]
  refine wpAnyH_take (i := 63) (v := ?_) rfl (by kernel_rfl) (by kernel_rfl) (by kernel_rfl) (fun _ _ _ h => h) (Or.inl ⟨by rfl, ?_⟩) hHeld ?_
  rotate_left
  · intro wq hSw
    replace hSw : Blk wq p (rgA c) 165 := hSw
    have z0 := hSw.rgC 12 (by decide)
    go_simp
    try with_reducible rfl
  try simp only [List.getElem_toArray, List.getElem_cons_succ, List.getElem_cons_zero, Act.put, List.setIfInBounds_toArray, List.set_cons_zero, List.set_cons_succ]
  refine wpAnyH_take (i := 64) (v := ?_) rfl (by kernel_rfl) (by kernel_rfl) (by kernel_rfl) (fun _ _ _ h => h) (Or.inl ⟨by rfl, ?_⟩) hHeld ?_
  rotate_left
  · intro wq hSw
    replace hSw : Blk wq p (rgA c) 165 := hSw
    go_simp
    try with_reducible rfl
  try simp only [List.getElem_toArray, List.getElem_cons_succ, List.getElem_cons_zero, Act.put, List.setIfInBounds_toArray, List.set_cons_zero, List.set_cons_succ]
  refine wpAnyH_take (i := 65) (v := ?_) rfl (by kernel_rfl) (by kernel_rfl) (by kernel_rfl) (fun _ _ _ h => h) (Or.inl ⟨by rfl, ?_⟩) hHeld ?_
  rotate_left
  · intro wq hSw
    replace hSw : Blk wq p (rgA c) 165 := hSw
    go_simp
    try with_reducible rfl
  try simp only [List.getElem_toArray, List.getElem_cons_succ, List.getElem_cons_zero, Act.put, List.setIfInBounds_toArray, List.set_cons_zero, List.set_cons_succ]
  refine wpAnyH_ready (rs := [66]) (by kernel_rfl) (by simp) ?_
  refine AllReadyH.cons rfl (fun K hK => ?_) AllReadyH.nil
  go_simp
  refine Calls.mono (HM.out _ hHeld) ?_
  rintro e w1 ⟨a, k, rfl, HR, g1⟩
  have kR1 := kR.grew (g1)
  have g01 := g0.trans g1
  refine hK.out _ _ (hHeld.grew g1) (fun hHeld => ?_)
  clear hK K
  try simp only [List.getElem_toArray, List.getElem_cons_succ, List.getElem_cons_zero, Act.put, List.setIfInBounds_toArray, List.set_cons_zero, List.set_cons_succ]
  refine wpAnyH_ready (rs := [67]) (by kernel_rfl) (by simp) ?_
  refine AllReadyH.cons rfl (fun K hK => ?_) AllReadyH.nil
  go_simp
  refine hK.out _ _ (hHeld) (fun hHeld => ?_)
  clear hK K
  try simp only [List.getElem_toArray, List.getElem_cons_succ, List.getElem_cons_zero, Act.put, List.setIfInBounds_toArray, List.set_cons_zero, List.set_cons_succ]
  refine wpAnyH_ready (rs := [68]) (by kernel_rfl) (by simp) ?_
  refine AllReadyH.cons rfl (fun K hK => ?_) AllReadyH.nil
  refine step_st_nc rfl (.tmp 2) (.tmp 70) rfl rfl c kR1 rfl (by rfl) (by rfl) ⟨_, _, _, rfl⟩ ?_
  intro w2 kN o2
  have k2 := hHeld.only o2 hne
  refine hK.out _ _ (k2) (fun hHeld => ?_)
  clear hK K
  try simp only [List.getElem_toArray, List.getElem_cons_succ, List.getElem_cons_zero, Act.put, List.setIfInBounds_toArray, List.set_cons_zero, List.set_cons_succ]
  refine wpAnyH_done (by kernel_rfl) ?_ _
  try simp only [List.getElem_toArray, List.getElem_cons_succ, List.getElem_cons_zero, Act.put, List.setIfInBounds_toArray, List.set_cons_zero, List.set_cons_succ]
  go_wp2_with fail
  have g2 : Grew w w2 := o2.grew g01 (by rw [HG.out]; exact Nat.le_refl _)
  exact bodyPost_ret (v := ncV c (.slice a 6 k)) (results_cell_row (p := 2) (ty := 34) Tryz.results85 _ _ G 34 (ncA c (.slice a 6 k)) (0, 0) _ rfl kN Tryz.underlying34 rfl ncInfo) rfl ⟨a, k, rfl, Lib.hid ((HR.out.only o2 kR1 (by decide)).low (by rw [HG.out]; exact hlt)), g2⟩
end Go.Proofs.YtgcfmijkggpemaaGreat
set_option maxRecDepth 4000
set_option linter.unusedVariables false
set_option linter.unusedSimpArgs false
namespace Go.Proofs.YtgcfmijkggpemaaGreat
open Go.RowKit

/-- No register of that size is there. -/
def badL (c : Nat → Int) (n : Nat) (off size : Int) : Bool := !chkB c n || (!(size == 4) || (decide (60 ≤ off) || !(off % 4 == 0)))
theorem badL_no {c : Nat → Int} {n : Nat} {off size : Int} (h0 : 0 ≤ off) (h : badL c n off size = false) : chkB c n = true ∧ size = 4 ∧ ∃ k : Nat, k < 15 ∧ off = 4 * (k : Int) := by
  simp only [badL, Bool.or_eq_false_iff, Bool.not_eq_false', beq_iff_eq, decide_eq_false_iff_not] at h
  obtain ⟨h1, h2, h3, h4⟩ := h
  exact ⟨h1, h2, (off / 4).toNat, by omega, by omega⟩
set_option maxHeartbeats 2000000 in
theorem ncFind_no (c : Nat → Int) (a : Option Addr) (n k : Nat) (off size : Int) (h0 : 0 ≤ off) (h : badL c n off size = true) (w : World) : Calls Tryz.prog 82 #[ncV c (.slice a n k), .int .u64 off, .int .i64 size] w fun e w' => e = .returned (.tuple #[.pointer none, .int .i64 0, .bool false]) ∧ Grew w w' := by
  have hC := Lib.hid (ncCheck_c c a n k)
  have hmod : off.tmod 4 = off % 4 := Int.tmod_eq_emod_of_nonneg h0
  unfold badL at h
  generalize chkB c n = b0 at *
  cases b1 : (size == 4) <;> cases b2 : decide (60 ≤ off) <;> cases b3 : (off % 4 == 0) <;> cases b0
  all_goals first | (exfalso; rw [b1, b2, b3] at h; simp at h; done) | skip
  all_goals
    clear h
    have b1' : (size != 4) = !(size == 4) := rfl
    rw [b1] at b1'
    have b3' : (off % 4 != 0) = !(off % 4 == 0) := rfl
    rw [b3] at b3'
    simp only [decide_eq_true_eq, decide_eq_false_iff_not] at b2
    simp only [Bool.not_true, Bool.not_false] at b1' b3'
    go_enter Tryz.func82, Tryz.ntmps82
    go_upto_region 1 with fail
    have kN : Blk (w.alloc (.cells (ncA c (.slice a n k)) 34)) w.heap.size (ncA c (.slice a n k)) 34 := Blk.new _ _ _ _ rfl
    have g0 : Grew w (w.alloc (.cells (ncA c (.slice a n k)) 34)) := (Grew.refl w).alloc _
    generalize (w.alloc (.cells (ncA c (.slice a n k)) 34)) = w0 at *
    generalize w.heap.size = N at *
    go_wp2_with (refine ld_nc rfl (.tmp 3) rfl _ rfl kN (by rfl) ?_)
    refine (hC.out _).mono ?_
    rintro e w1 ⟨rfl, g1⟩
    go_wp2_with fail
    go_returns
    exact ⟨rfl, g0.trans g1⟩
set_option maxHeartbeats 2000000 in
theorem ncFind_yes {c : Nat → Int} {m : List Int} {a : Option Addr} {j : Nat} {w : World} (hc : ROk c) (hm : MacIs c m) (hB : Buf w (.slice a 6 j) m) {k : Nat} (hk : k < 15) : Calls Tryz.prog 82 #[ncV c (.slice a 6 j), .int .u64 (4 * (k : Int)), .int .i64 4] w fun e w' => ∃ p, e = .returned (.tuple #[.pointer (some ⟨p, 0, none⟩), .int .i64 k, .bool true]) ∧ w.heap.size ≤ p ∧ Blk w' p (rgA c) 165 ∧ Grew w w' := by
  have hC := ncCheck_c c a 6 j
  rw [ok_chk hc] at hC
  have HC := Lib.hid hC
  have HT := Lib.hid (fun (w : World) (h : Buf w (.slice a 6 j) m) => ncTaken_c hm hc.rg h)
  have HB := Lib.hid hB
  have h1 : ¬ (60 ≤ 4 * (k : Int)) := by omega
  have h2 : (4 * (k : Int)) % 4 = 0 := by omega
  have h2' : (4 * (k : Int)).tmod 4 = 0 := by rw [Int.tmod_eq_emod_of_nonneg (by omega)]; exact h2
  have h3 : (4 * (k : Int)) / 4 = (k : Int) := by omega
  have h3' : (4 * (k : Int)).tdiv 4 = (k : Int) := by rw [Int.tdiv_eq_ediv_of_nonneg (by omega)]; exact h3
  have h4 : IntKind.i64.wrap (k : Int) = (k : Int) := IntWalk.i64_in _ (by omega)
  have h5 : IntKind.u64.wrap (k : Int) = (k : Int) := IntWalk.u64_in _ (by omega)
  have h6 : 0 ≤ 4 * (k : Int) := by omega
  have h7 : 4 * (k : Int) < 18446744073709551616 := by omega
  clear hC hB hk hm hc
  generalize 4 * (k : Int) = x at *
  go_enter Tryz.func82, Tryz.ntmps82
  go_upto_region 1 with fail
  have kN : Blk (w.alloc (.cells (ncA c (.slice a 6 j)) 34)) w.heap.size (ncA c (.slice a 6 j)) 34 := Blk.new _ _ _ _ rfl
  have g0 : Grew w (w.alloc (.cells (ncA c (.slice a 6 j)) 34)) := (Grew.refl w).alloc _
  generalize (w.alloc (.cells (ncA c (.slice a 6 j)) 34)) = w0 at *
  have lN := kN.lt
  go_wp2_with (refine ld_nc rfl (.tmp 3) rfl _ rfl kN (by rfl) ?_)
  refine (HC.out _).mono ?_
  rintro e w1 ⟨rfl, g1⟩
  have kN1 := kN.grew g1
  have g01 := g0.trans g1
  go_wp2_with (refine ld_nc rfl (.tmp 3) rfl _ rfl kN1 (by rfl) ?_)
  refine (HT.out _ (HB.out.grew g01)).mono ?_
  rintro e w2 ⟨p, rfl, hp, hR, g2⟩
  go_wp2_with fail
  go_returns
  exact ⟨p, rfl, by have := g01.size; omega, hR, g01.trans g2⟩
def ldV (c : Nat → Int) (n : Nat) (off size : Int) : Int := if badL c n off size then 0 else c (off / 4).toNat
set_option maxHeartbeats 1000000 in
theorem ncLoad_no (c : Nat → Int) (a : Option Addr) (n k : Nat) (off size : Int) (h0 : 0 ≤ off) (h : badL c n off size = true) (w : World) : Calls Tryz.prog 58 #[ncV c (.slice a n k), .int .u64 off, .int .i64 size] w fun e w' => e = .returned (.tuple #[.int .u64 0, .bool false]) ∧ Grew w w' := by
  have hF := Lib.hid (ncFind_no c a n k off size h0 h)
  clear h h0
  go_enter Tryz.func58, Tryz.ntmps58
  go_upto_region 1 with fail
  have kN : Blk (w.alloc (.cells (ncA c (.slice a n k)) 34)) w.heap.size (ncA c (.slice a n k)) 34 := Blk.new _ _ _ _ rfl
  have g0 : Grew w (w.alloc (.cells (ncA c (.slice a n k)) 34)) := (Grew.refl w).alloc _
  generalize (w.alloc (.cells (ncA c (.slice a n k)) 34)) = w0 at *
  go_wp2_with (refine ld_nc rfl (.tmp 3) rfl _ rfl kN (by rfl) ?_)
  refine (hF.out _).mono ?_
  rintro e w1 ⟨rfl, g1⟩
  go_wp2_with fail
  go_ret2
  exact ⟨rfl, g0.trans g1⟩
set_option maxHeartbeats 1000000 in
theorem ncLoad_yes {c : Nat → Int} {m : List Int} {a : Option Addr} {j : Nat} {w : World} (hc : ROk c) (hm : MacIs c m) (hB : Buf w (.slice a 6 j) m) {k : Nat} (hk : k < 15) : Calls Tryz.prog 58 #[ncV c (.slice a 6 j), .int .u64 (4 * (k : Int)), .int .i64 4] w fun e w' => e = .returned (.tuple #[.int .u64 (c k), .bool true]) ∧ Grew w w' := by
  have hF := Lib.hid (fun (w : World) (h : Buf w (.slice a 6 j) m) => ncFind_yes hc hm h hk)
  have HB := Lib.hid hB
  have hb := hc.rg k hk
  have hw : IntKind.u64.wrap (c k) = c k := IntWalk.u64_in _ (by omega)
  have hk0 : (0 : Int) ≤ (k : Int) := by omega
  have hk1 : (k : Int) < 15 := by omega
  clear hB hm hc hb
  go_enter Tryz.func58, Tryz.ntmps58
  go_upto_region 1 with fail
  have kN : Blk (w.alloc (.cells (ncA c (.slice a 6 j)) 34)) w.heap.size (ncA c (.slice a 6 j)) 34 := Blk.new _ _ _ _ rfl
  have g0 : Grew w (w.alloc (.cells (ncA c (.slice a 6 j)) 34)) := (Grew.refl w).alloc _
  generalize (w.alloc (.cells (ncA c (.slice a 6 j)) 34)) = w0 at *
  go_wp2_with (refine ld_nc rfl (.tmp 3) rfl _ rfl kN (by rfl) ?_)
  refine (hF.out _ (HB.out.grew g0)).mono ?_
  rintro e w1 ⟨p, rfl, hp, hR, g1⟩
  have c0 := hR.rgC k hk
  clear hp hR
  go_wp2_with fail
  go_ret2
  exact ⟨rfl, g0.trans g1⟩
theorem ncLoad_c {c : Nat → Int} {m : List Int} (hm : MacOf c m) {a : Option Addr} {j : Nat} {off size : Int} (h0 : 0 ≤ off) {w : World} (hB : Buf w (.slice a m.length j) m) : Calls Tryz.prog 58 #[ncV c (.slice a m.length j), .int .u64 off, .int .i64 size] w fun e w' => e = .returned (.tuple #[.int .u64 (ldV c m.length off size), .bool (!badL c m.length off size)]) ∧ Grew w w' := by
  unfold ldV
  cases hb : badL c m.length off size
  · obtain ⟨h1, rfl, k, hk, rfl⟩ := badL_no h0 hb
    obtain ⟨hc, hi⟩ := chk_ok hm hB.ok h1
    have h6 := hi.1
    rw [h6] at hB ⊢
    have := ncLoad_yes hc hi hB hk
    rw [show (4 * (k : Int) / 4).toNat = k by omega]
    exact this
  · exact ncLoad_no c a m.length j off size h0 hb w
theorem results_nb {fn : Func} {p q : Tmp} (h : fn.results = #[.cell p 34, .tmp q]) (tmps : Array Value) (w : World) (g : Nat) {c : Nat → Int} {u : Value} {T : TypeId} (k : Blk w g (ncA c u) T)
    (hp : tmps.getD p undef = .pointer (some ⟨g, 0, none⟩)) : (results fn tmps).run Tryz.prog w = .ok (.tuple #[ncV c u, tmps.getD q undef]) w := by
  have hp' : tmps[p]?.getD undef = .pointer (some ⟨g, 0, none⟩) := by simpa using hp
  simp [results, h, hp', asAddr, var_nc k]
def ncStS (c : Nat → Int) (n : Nat) (off size x : Int) : Nat → Int := if badL c n off size then c else stC (off / 4).toNat (x % 4294967296) c
set_option maxHeartbeats 1000000 in
theorem ncStore_no {c : Nat → Int} {m : List Int} {a : Option Addr} {j : Nat} {w : World} (off size x : Int) (h0 : 0 ≤ off) (hl : m.length ≤ 140737488355328) (h : badL c m.length off size = true) (hB : Buf w (.slice a m.length j) m) : Calls Tryz.prog 60 #[ncV c (.slice a m.length j), .int .u64 off, .int .i64 size, .int .u64 x] w fun e w' => ∃ b i, e = .returned (.tuple #[ncV c (.slice b m.length i), .bool false]) ∧ Hid (Buf w' (.slice b m.length i) m) ∧ Grew w w' := by
  have hF := Lib.hid (ncFind_no c a m.length j off size h0 h)
  have hO := Lib.hid (fun (w : World) (h : Buf w (.slice a m.length j) m) => ownN_c (c := c) hl h)
  have HB := Lib.hid hB
  have HK := Lib.hid hB.ok
  clear h h0 hl hB
  generalize hn : m.length = n at *
  have HN := Lib.hid hn
  clear hn
  go_enter Tryz.func60, Tryz.ntmps60
  go_upto_region 1 with fail
  have kN : Blk ((w.alloc (.cells (ncA c (.slice a n j)) 34)).alloc (.cells zeroN 34)) w.heap.size (ncA c (.slice a n j)) 34 := (Blk.new w (ncA c (.slice a n j)) 34 _ rfl).alloc (.cells zeroN 34)
  have kR : Blk ((w.alloc (.cells (ncA c (.slice a n j)) 34)).alloc (.cells zeroN 34)) (w.heap.size + 1) zeroN 34 := Blk.new (w.alloc (.cells (ncA c (.slice a n j)) 34)) zeroN 34 _ (by simp)
  have g0 : Grew w ((w.alloc (.cells (ncA c (.slice a n j)) 34)).alloc (.cells zeroN 34)) := ((Grew.refl w).alloc (.cells (ncA c (.slice a n j)) 34)).alloc (.cells zeroN 34)
  generalize ((w.alloc (.cells (ncA c (.slice a n j)) 34)).alloc (.cells zeroN 34)) = w0 at *
  have lN : w.heap.size ≤ w.heap.size := by omega
  have lR : w.heap.size ≤ (w.heap.size + 1) := by omega
  have nNR : w.heap.size ≠ (w.heap.size + 1) := by omega
  have nRN : (w.heap.size + 1) ≠ w.heap.size := by omega
  generalize (w.heap.size + 1) = R at *
  generalize hZ : w.heap.size = N at *
  have HZ := Lib.hid hZ
  clear hZ
  have LN : Hid (w.heap.size ≤ N) := Lib.hid (by rw [HZ.out]; exact lN)
  have LR : Hid (w.heap.size ≤ R) := Lib.hid (by rw [HZ.out]; exact lR)
  go_wp2_with (refine ld_nc rfl (.tmp 4) rfl _ rfl kN (by rfl) ?_)
  refine (hF.out _).mono ?_
  rintro e w1 ⟨rfl, g1⟩
  have kN1 := kN.grew g1
  have kR1 := kR.grew g1
  have g01 := g0.trans g1
  go_upto_region 3 with fail
  go_wp2_with (refine ld_nc rfl (.tmp 4) rfl _ rfl kN1 (by rfl) ?_)
  refine (hO.out _ (HB.out.grew g01)).mono ?_
  rintro e w2 ⟨b, i, rfl, HR, g2⟩
  have kR2 := kR1.grew g2
  go_wp2_with (refine st_nc rfl (.tmp 8) (.tmp 24) rfl rfl c kR2 rfl (by rfl) (by rfl) ⟨_, _, _, rfl⟩ ?_; intro w3 kR3 o3)
  have g3 : Grew w w3 := o3.grew (g01.trans g2) LR.out
  exact bodyPost_ret (v := .tuple #[ncV c (.slice b n i), .bool false]) (results_nb (p := 8) (q := 9) Tryz.results60 _ _ R kR3 rfl) rfl ⟨b, i, rfl, Lib.hid ((HR.out.only o3 kR2 (by decide)).buf HK.out), g3⟩
theorem stC_13 (k : Nat) (y : Int) (c : Nat → Int) : stC k y c 13 = c 13 := by
  unfold stC begint beginr reacht reachr
  repeat' split
  all_goals rfl
theorem stC_14 (k : Nat) (y : Int) (c : Nat → Int) : stC k y c 14 = c 14 := by
  unfold stC begint beginr reacht reachr
  repeat' split
  all_goals rfl
set_option maxHeartbeats 1000000 in
theorem ncStore_yes {c : Nat → Int} {m : List Int} {a : Option Addr} {j : Nat} {w : World} (hc : ROk c) (hm : MacIs c m) (x : Int) (h0 : 0 ≤ x) {k : Nat} (hk : k < 15) (hB : Buf w (.slice a 6 j) m) : Calls Tryz.prog 60 #[ncV c (.slice a 6 j), .int .u64 (4 * (k : Int)), .int .i64 4, .int .u64 x] w fun e w' => ∃ b i, e = .returned (.tuple #[ncV (stC k (x % 4294967296) c) (.slice b 6 i), .bool true]) ∧ Hid (Buf w' (.slice b 6 i) m) ∧ Grew w w' := by
  have hF := Lib.hid (fun (w : World) (h : Buf w (.slice a 6 j) m) => ncFind_yes hc hm h hk)
  have hS := Lib.hid (fun (w : World) (p : Nat) (h : Blk w p (rgA c) 165) => store_k h (y := x % 4294967296) (by omega) (by omega) hk)
  have hc2 := hc.st (y := x % 4294967296) (by omega) (by omega) k
  have hi2 : MacIs (stC k (x % 4294967296) c) m := ⟨hm.1, by rw [stC_13]; exact hm.2.1, by rw [stC_14]; exact hm.2.2⟩
  have hme := Lib.hid (hi2.mac hB.ok)
  have hNi := Lib.hid (fun (w : World) (p : Nat) (h : Blk w p (rgA (stC k (x % 4294967296) c)) 165) => nic_c h hc2.rg)
  have HB := Lib.hid hB
  have HK := Lib.hid hB.ok
  have hw : IntKind.u32.wrap x = x % 4294967296 := by simp [IntKind.wrap, IntKind.bits, IntKind.signed]
  generalize stC k (x % 4294967296) c = c2 at *
  generalize x % 4294967296 = y at *
  clear hB hm hc hc2 hi2 h0 hk
  go_enter Tryz.func60, Tryz.ntmps60
  go_upto_region 1 with fail
  have kN : Blk ((w.alloc (.cells (ncA c (.slice a 6 j)) 34)).alloc (.cells zeroN 34)) w.heap.size (ncA c (.slice a 6 j)) 34 := (Blk.new w (ncA c (.slice a 6 j)) 34 _ rfl).alloc (.cells zeroN 34)
  have kR : Blk ((w.alloc (.cells (ncA c (.slice a 6 j)) 34)).alloc (.cells zeroN 34)) (w.heap.size + 1) zeroN 34 := Blk.new (w.alloc (.cells (ncA c (.slice a 6 j)) 34)) zeroN 34 _ (by simp)
  have g0 : Grew w ((w.alloc (.cells (ncA c (.slice a 6 j)) 34)).alloc (.cells zeroN 34)) := ((Grew.refl w).alloc (.cells (ncA c (.slice a 6 j)) 34)).alloc (.cells zeroN 34)
  generalize ((w.alloc (.cells (ncA c (.slice a 6 j)) 34)).alloc (.cells zeroN 34)) = w0 at *
  have lN : w.heap.size ≤ w.heap.size := by omega
  have lR : w.heap.size ≤ (w.heap.size + 1) := by omega
  have nNR : w.heap.size ≠ (w.heap.size + 1) := by omega
  have nRN : (w.heap.size + 1) ≠ w.heap.size := by omega
  generalize (w.heap.size + 1) = R at *
  generalize hZ : w.heap.size = N at *
  have HZ := Lib.hid hZ
  clear hZ
  have LN : Hid (w.heap.size ≤ N) := Lib.hid (by rw [HZ.out]; exact lN)
  have LR : Hid (w.heap.size ≤ R) := Lib.hid (by rw [HZ.out]; exact lR)
  go_wp2_with (refine ld_nc rfl (.tmp 4) rfl _ rfl kN (by rfl) ?_)
  refine (hF.out _ (HB.out.grew g0)).mono ?_
  rintro e w1 ⟨p, rfl, hp, hR, g1⟩
  have kR1 := kR.grew g1
  have lR0 := kR.lt
  have g01 := g0.trans g1
  go_upto_region 4 with fail
  go_wp2_with fail
  refine (hS.out _ _ hR).mono ?_
  rintro e w2 ⟨rfl, hR2, t2⟩
  have kR2 := kR1.trn t2 (by omega)
  have gs := g0.size
  have g2 : Grew w w2 := t2.grew g01 (by omega)
  go_wp2_with fail
  refine (hNi.out _ _ hR2).mono ?_
  rintro e w3 ⟨b, i, rfl, HR, g3⟩
  have kR3 := kR2.grew g3
  go_wp2_with (refine st_nc rfl (.tmp 8) (.tmp 31) rfl rfl c2 kR3 rfl (by rfl) (by rfl) ⟨_, _, _, rfl⟩ ?_; intro w4 kR4 o4)
  have g4 : Grew w w4 := o4.grew (g2.trans g3) LR.out
  rw [hme.out] at HR
  exact bodyPost_ret (v := .tuple #[ncV c2 (.slice b 6 i), .bool true]) (results_nb (p := 8) (q := 9) Tryz.results60 _ _ R kR4 rfl) rfl ⟨b, i, rfl, Lib.hid ((HR.out.only o4 kR3 (by decide)).buf HK.out), g4⟩
theorem ncStore_c {c : Nat → Int} {m : List Int} (hm : MacOf c m) (hl : m.length ≤ 140737488355328) {a : Option Addr} {j : Nat} {off size x : Int} (h0 : 0 ≤ off) (hx : 0 ≤ x) {w : World} (hB : Buf w (.slice a m.length j) m) : Calls Tryz.prog 60 #[ncV c (.slice a m.length j), .int .u64 off, .int .i64 size, .int .u64 x] w fun e w' => ∃ b i, e = .returned (.tuple #[ncV (ncStS c m.length off size x) (.slice b m.length i), .bool (!badL c m.length off size)]) ∧ Hid (Buf w' (.slice b m.length i) m) ∧ Grew w w' := by
  unfold ncStS
  cases hb : badL c m.length off size
  · obtain ⟨h1, rfl, k, hk, rfl⟩ := badL_no h0 hb
    obtain ⟨hc, hi⟩ := chk_ok hm hB.ok h1
    have h6 := hi.1
    rw [h6] at hB ⊢
    have := ncStore_yes hc hi x hx hk hB
    rw [show (4 * (k : Int) / 4).toNat = k by omega]
    exact this
  · exact ncStore_no off size x h0 hl hb hB
def newC (m : List Int) : Nat → Int := fun i => if i = 4 then 1 else if i = 8 then 1 else if i = 13 then getV (cutL m 0 4) false else if i = 14 then getV (cutL m 4 6) false else 0
def zeroC : Nat → Int := fun _ => 0
theorem results_ne {fn : Func} {p q : Tmp} (h : fn.results = #[.cell p 34, .tmp q]) (tmps : Array Value) (w : World) (g : Nat) {c : Nat → Int} {u : Value} {T : TypeId} (k : Blk w g (ncA c u) T) (hp : tmps.getD p undef = .pointer (some ⟨g, 0, none⟩)) : (results fn tmps).run Tryz.prog w = .ok (.tuple #[ncV c u, tmps.getD q undef]) w := results_nb h tmps w g k hp
set_option maxHeartbeats 1000000 in
theorem New_no {m : List Int} {a : Option Addr} {j : Nat} {w : World} (h6 : m.length ≠ 6) : Calls Tryz.prog 27 #[.slice a m.length j] w fun e w' => e = .returned (.tuple #[ncV zeroC (.slice none 0 0), .int .i64 2]) ∧ Grew w w' := by
  have h6' : ((m.length : Int) != 6) = true := by simp; omega
  generalize m.length = n at *
  clear h6
  go_enter Tryz.func27, Tryz.ntmps27
  go_upto_region 1 with fail
  have kR : Blk (w.alloc (.cells zeroN 34)) w.heap.size zeroN 34 := Blk.new w zeroN 34 _ rfl
  have g0 : Grew w (w.alloc (.cells zeroN 34)) := (Grew.refl w).alloc (.cells zeroN 34)
  generalize (w.alloc (.cells zeroN 34)) = w0 at *
  have lR : w.heap.size ≤ w.heap.size := by omega
  generalize hZ : w.heap.size = R at *
  have HZ := Lib.hid hZ
  clear hZ
  have LR : Hid (w.heap.size ≤ R) := Lib.hid (by rw [HZ.out]; exact lR)
  go_wp2_with (refine st_nc rfl (.tmp 2) (.tmp 7) rfl rfl zeroC kR rfl (by rfl) (by rfl) ⟨_, _, _, rfl⟩ ?_; intro w3 kR3 o3)
  have g3 : Grew w w3 := o3.grew g0 LR.out
  exact bodyPost_ret (v := .tuple #[ncV zeroC (.slice none 0 0), .int .i64 2]) (results_nb (p := 2) (q := 3) Tryz.results27 _ _ R kR3 rfl) rfl ⟨rfl, g3⟩
set_option maxHeartbeats 1000000 in
theorem New_yes {m : List Int} {a : Option Addr} {j : Nat} {w : World} (h6 : m.length = 6) (hB : Buf w (.slice a m.length j) m) : Calls Tryz.prog 27 #[.slice a m.length j] w fun e w' => ∃ b i, e = .returned (.tuple #[ncV (newC m) (.slice b m.length i), .int .i64 0]) ∧ Hid (Buf w' (.slice b m.length i) m) ∧ Grew w w' := by
  have h6' : ((m.length : Int) != 6) = false := by simp; omega
  have HC := Lib.hid (fun (w : World) (h : Buf w (.slice a m.length j) m) => Clone_c (by omega) h)
  have HB := Lib.hid hB
  have HK := Lib.hid hB.ok
  generalize hn : m.length = n at *
  have HN := Lib.hid hn
  clear h6 hB hn
  go_enter Tryz.func27, Tryz.ntmps27
  go_upto_region 1 with fail
  have kR : Blk (w.alloc (.cells zeroN 34)) w.heap.size zeroN 34 := Blk.new w zeroN 34 _ rfl
  have g0 : Grew w (w.alloc (.cells zeroN 34)) := (Grew.refl w).alloc (.cells zeroN 34)
  generalize (w.alloc (.cells zeroN 34)) = w0 at *
  have lR : w.heap.size ≤ w.heap.size := by omega
  generalize hZ : w.heap.size = R at *
  have HZ := Lib.hid hZ
  clear hZ
  have LR : Hid (w.heap.size ≤ R) := Lib.hid (by rw [HZ.out]; exact lR)
  go_wp2_with fail
  refine (HC.out _ (HB.out.grew g0)).mono ?_
  rintro e w1 ⟨b, i, rfl, HR, g1⟩
  have kR1 := kR.grew g1
  go_wp2_with (refine st_nc rfl (.tmp 2) (.tmp 10) rfl rfl (newC m) kR1 rfl (by rfl) (by rfl) ⟨_, _, _, rfl⟩ ?_; intro w3 kR3 o3)
  have g3 : Grew w w3 := o3.grew (g0.trans g1) LR.out
  exact bodyPost_ret (v := .tuple #[ncV (newC m) (.slice b n i), .int .i64 0]) (results_nb (p := 2) (q := 3) Tryz.results27 _ _ R kR3 rfl) rfl ⟨b, i, rfl, Lib.hid ((HR.out.only o3 kR1 (by decide)).buf HK.out), g3⟩
end Go.Proofs.YtgcfmijkggpemaaGreat
