/-
  Contracts of package rvc: fields of a short instruction, and gather.
-/
import Derived.Test.YtchogiglejnlhaaField
import Derived.Test.YtchogiglejnlhaaRvcN
import Derived.LoopTactic
import Derived.Outline
namespace Go.Proofs.Ytchogiglejnlhaa
open Go.RowKit

theorem ret_u32 {a b : Int} (h : a = b) : Ending.returned (.int .u32 a) = .returned (.int .u32 b) := by rw [h]
/-- Below W's heap nothing has turned. -/
def Grew (W w : World) : Prop := Below W.heap.size W w
theorem Grew.refl (W : World) : Grew W W := Below.refl _ W
theorem Grew.drewN {W w : World} (h : Grew W w) (n : Nat) : Grew W (w.drewN n) := ⟨h.os, h.tape, h.output, h.size, h.block⟩
theorem Grew.drew {W w w' : World} (h : Grew W w) (d : Drew w w') : Grew W w' := by obtain ⟨n, rfl⟩ := d; exact h.drewN n
theorem Grew.alloc {W w : World} (h : Grew W w) (o : Obj) : Grew W (w.alloc o) := Below.alloc h h.size o

theorem hfield_d (h : Nat) (hh : h < 65536) (hi lo : Int) (h0 : 0 ≤ lo) (h1 : lo ≤ hi) (h2 : hi ≤ 63) (w : World) :
    Calls Try.prog 15 #[.int .u16 h, .int .i64 hi, .int .i64 lo] w fun e w' => e = .returned (.int .u64 (fN h hi lo)) ∧ Drew w w' := by
  have e := fN_field h hi lo h0 h1 h2
  have H := Lib.hid e
  clear e
  go_enter Try.func15, Try.ntmps15
  go_wp2_with fail
  refine (field_c (h : Int) hi lo (by omega) (by omega) _).mono ?_
  rintro e w' ⟨rfl, n, rfl⟩
  go_wp2
  go_ret
  exact ⟨ret_u64 H.out, n, rfl⟩
theorem hfield (h : Nat) (hh : h < 65536) (hi lo : Int) (h0 : 0 ≤ lo) (h1 : lo ≤ hi) (h2 : hi ≤ 63) {W w : World} (hg : Grew W w) :
    Calls Try.prog 15 #[.int .u16 h, .int .i64 hi, .int .i64 lo] w fun e w' => e = .returned (.int .u64 (fN h hi lo)) ∧ Grew W w' :=
  (hfield_d h hh hi lo h0 h1 h2 w).mono fun _ _ ⟨a, b⟩ => ⟨a, hg.drew b⟩

/-- Numbers in memory. -/
def IntsAt (w : World) (b : Nat) (ps : List Int) : Prop := ∀ k, k < ps.length → w.cell? ⟨b, k, none⟩ = some (.int .i64 (ps.getD k 0))
theorem gather_d (h : Nat) (hh : h < 65536) (high : Int) (ps : List Int) (hp : Places ps) (hl : (ps.length : Int) ≤ high + 1) (hx : high ≤ 15) (b : Nat) (w : World) (hc : IntsAt w b ps) :
    Calls Try.prog 41 #[.int .u16 h, .int .i64 high, .slice (some ⟨b, 0, none⟩) ps.length ps.length] w fun e w' => e = .returned (.int .u64 (gN h high ps)) ∧ Drew w w' := by
  obtain ⟨n, hn⟩ : ∃ n, n = ps.length := ⟨_, rfl⟩
  rw [show gN h high ps = gK h high ps n by rw [hn]; rfl, ← hn]
  rw [← hn] at hl
  unfold IntsAt at hc
  rw [← hn] at hc
  have HC := Lib.hid hc
  clear hc hn
  go_enter Try.func41, Try.ntmps41
  go_wp2
  go_loopw [7, 12] (fun x i wr => ∃ k : Nat, k ≤ n ∧ i = .int .i64 k ∧ x = .int .u64 (gK h high ps k) ∧ ∃ m, wr = w.drewN m) (fun _ i _ => n - (intOf i).toNat)
  case atStart => exact ⟨0, Nat.zero_le _, rfl, rfl, 0, rfl⟩
  case round =>
    obtain ⟨k, hk, rfl, rfl, m, rfl⟩ := hrel
    by_cases hlt : k < n
    · have hcell := HC.out k hlt
      have hpk := hp k
      have hstep : gK h high ps (k + 1) = gK h high ps k ||| bitAt h (high - k) (ps.getD k 0) := rfl
      have hbit : bitAt h (high - k) (ps.getD k 0) = fN h (high - k) (high - k) * 2 ^ (ps.getD k 0).toNat := rfl
      have hbl := bitAt_lt h (high - k) (ps.getD k 0) (by omega)
      have hkl := gK_lt h high ps hp k
      have hor := or64 _ _ hkl hbl
      rw [← hstep] at hor
      have hsub : IntKind.i64.wrap (high - k) = high - k := IntWalk.i64_in _ (by omega)
      clear hstep
      generalize hq : ps.getD k 0 = q at *
      have hw : IntKind.u64.wrap ((fN h (high - k) (high - k) : Int) * 2 ^ q.toNat) = (bitAt h (high - k) q : Int) := by
        rw [hbit] at hbl ⊢
        exact wrap_cast _ _ hbl
      clear hbit hq hp
      go_wp2_with fail
      refine (hfield_d h hh (high - k) (high - k) (by omega) (by omega) (by omega) _).mono ?_
      rintro e w' ⟨rfl, m2, rfl⟩
      go_wp2_with fail
      go_roundw
      case rel => exact ⟨k + 1, by omega, by go_num, rfl, _, rfl⟩
      case measure => simp [intOf]; omega
    · obtain rfl : k = n := by omega
      go_wp2
      go_ret
      exact ⟨rfl, _, rfl⟩

theorem cells_lit (w : World) (ps : List Int) (vs : Array Value) (hv : vs = (ps.map (Value.int .i64)).toArray) (b : Nat) (hb : b = w.heap.size) (T : TypeId) : IntsAt (w.alloc (.cells vs T)) b ps := by
  subst hb hv
  intro k hk
  rw [World.cell?_alloc_new]
  simp [hk]
theorem gather_l (h : Nat) (hh : h < 65536) (high : Int) (ps : List Int) (hp : (ps.all fun p => decide (0 ≤ p) && decide (p ≤ 20)) = true) (hl : (ps.length : Int) ≤ high + 1) (hx : high ≤ 15)
    (vs : Array Value) (hv : vs = (ps.map (Value.int .i64)).toArray) (n : Nat) (hn : n = ps.length) {W w : World} (hg : Grew W w) (b : Nat) (hb : b = w.heap.size) (T : TypeId) :
    Calls Try.prog 41 #[.int .u16 h, .int .i64 high, .slice (some ⟨b, 0, none⟩) n n] (w.alloc (.cells vs T)) fun e w' => e = .returned (.int .u64 (gN h high ps)) ∧ Grew W w' := by
  subst hn
  exact (gather_d h hh high ps (Places.of ps hp) hl hx b _ (cells_lit w ps vs hv b hb T)).mono fun _ _ ⟨a, d⟩ => ⟨a, (hg.alloc _).drew d⟩
theorem bfield (x : Nat) (hx : x < 18446744073709551616) (hi lo : Int) (h0 : 0 ≤ lo) (h1 : lo ≤ hi) (h2 : hi ≤ 63) {W w : World} (hg : Grew W w) :
    Calls Try.prog 40 #[.int .u64 x, .int .i64 hi, .int .i64 lo] w fun e w' => e = .returned (.int .u64 (fN x hi lo)) ∧ Grew W w' :=
  (field_c (x : Int) hi lo (by omega) (by omega) w).mono fun _ _ ⟨a, b⟩ => ⟨by rw [a, fN_field x hi lo h0 h1 h2], hg.drew b⟩

theorem immediate_n (op f rd rs1 imm : Nat) (h1 : op < 128) (h2 : f < 8) (h3 : rd < 32) (h4 : rs1 < 32) (h5 : imm < 18446744073709551616) {W w : World} (hg : Grew W w) :
    Calls Try.prog 42 #[.int .u64 op, .int .u64 f, .int .u64 rd, .int .u64 rs1, .int .u64 imm] w fun e w' => e = .returned (.int .u32 (imN op f rd rs1 imm)) ∧ Grew W w' := by
  have b1 := fN_lt imm 11 0 4096 (by decide)
  go_enter Try.func42, Try.ntmps42
  go_wp2_with fail
  refine (bfield imm h5 11 0 (by omega) (by omega) (by omega) hg).mono ?_
  rintro e w1 ⟨rfl, g1⟩
  go_wp2_with fail
  go_ret
  refine ⟨ret_u32 ?_, g1⟩
  unfold imN
  simp (disch := (repeat (first | omega | apply or64_lt | apply or32_lt))) only [mulc, or64, mod32]
end Go.Proofs.Ytchogiglejnlhaa
