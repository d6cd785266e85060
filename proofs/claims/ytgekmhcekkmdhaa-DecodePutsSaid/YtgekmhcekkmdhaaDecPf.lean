/-
  The document's Encode answers what package decode's does.
-/
import Derived.Test.YtgekmhcekkmdhaaDecPe
set_option linter.unusedVariables false
set_option linter.unusedSimpArgs false
namespace Go.Proofs.Ytgekmhcekkmdhaa
open Go Go.RowKit

theorem eqI_iff' (i j : Ins) : eqI i j = true ↔ i = j := by
  obtain ⟨c, f, d, r1, r2, r3, m⟩ := i
  obtain ⟨c', f', d', r1', r2', r3', m'⟩ := j
  simp [eqI]
/-- What package decode puts together has registers that there are, and the document's word. -/
theorem enc_in (c f : Int) (d : Bool) (r1 r2 r3 : Int) (m : Nat) (h : encB c f d r1 r2 r3 m = true) :
    (0 ≤ r1 ∧ r1 ≤ 31) ∧ (0 ≤ r2 ∧ r2 ≤ 31) ∧ (0 ≤ r3 ∧ r3 ≤ 31) ∧ wdN c f d r1.toNat r2.toNat r3.toNat m = encN c f d r1 r2 r3 m := by
  unfold encB at h
  simp only [Bool.and_eq_true, Bool.not_eq_true'] at h
  obtain ⟨hn, he⟩ := h
  have hE := encN_lt c f d r1 r2 r3 m
  generalize hEE : encN c f d r1 r2 r3 m = E at *
  have hd := (eqI_iff' _ _).1 he
  obtain ⟨M, h1, h2, h3⟩ := same_all E hE hn
  have q1 : 0 ≤ (decI E).r1 ∧ (decI E).r1 ≤ 31 := by
    have := rd_lt E
    show 0 ≤ ((regN _ E 11 7 : Nat) : Int) ∧ ((regN _ E 11 7 : Nat) : Int) ≤ 31
    unfold regN
    split <;> omega
  have q2 : 0 ≤ (decI E).r2 ∧ (decI E).r2 ≤ 31 := by
    have := rs1_lt E
    show 0 ≤ ((regN _ E 19 15 : Nat) : Int) ∧ ((regN _ E 19 15 : Nat) : Int) ≤ 31
    unfold regN
    split <;> omega
  have q3 : 0 ≤ (decI E).r3 ∧ (decI E).r3 ≤ 31 := by
    have := rs2_lt E
    show 0 ≤ ((regN _ E 24 20 : Nat) : Int) ∧ ((regN _ E 24 20 : Nat) : Int) ≤ 31
    unfold regN
    split <;> omega
  rw [hd] at q1 q2 q3 h1 h3
  refine ⟨q1, q2, q3, ?_⟩
  obtain rfl : M = m := by
    have : (m : Int) = (M : Int) := h1
    omega
  rw [← hEE]
  exact h3
/-- What the document puts together, package decode does. -/
theorem enc_back (c f : Int) (d : Bool) (rd s1 s2 m : Nat) (X : Nat) (hX : X < 4294967296) (hw : wdN c f d rd s1 s2 m = X) (hn : noB (kOf X) = false) (hd : decI X = ⟨c, f, d, (rd : Nat), (s1 : Nat), (s2 : Nat), (m : Nat)⟩) :
    encB c f d (rd : Nat) (s1 : Nat) (s2 : Nat) m = true ∧ encN c f d (rd : Nat) (s1 : Nat) (s2 : Nat) m = X := by
  obtain ⟨M, h1, h2, h3⟩ := same_all X hX hn
  rw [hd] at h1 h3
  obtain rfl : M = m := by
    have : (m : Int) = (M : Int) := h1
    omega
  have e : encN c f d (rd : Nat) (s1 : Nat) (s2 : Nat) M = X := by rw [← hw]; exact h3.symm
  refine ⟨?_, e⟩
  unfold encB
  rw [e, hn, hd, (eqI_iff' _ _).2 rfl]
  rfl

set_option maxHeartbeats 1000000 in
theorem re_no (c f : Int) (d : Bool) (rd s1 s2 m : Nat) (h4 : rd < 32) (h5 : s1 < 32) (h6 : s2 < 32) (hm : m < 18446744073709551616) (X : Nat) (hX : X < 4294967296) (hw : wdN c f d rd s1 s2 m = X) (j : Ins)
    (hj : ∀ w : World, Calls Try.prog 12 #[.int .u32 (X : Nat)] w fun e w' => e = .returned (.tuple #[iV j, .bool false]) ∧ Grew w w') (w : World) :
    Calls Try.prog 15 #[iP c f d rd s1 s2 m] w fun e w' => e = .returned (.tuple #[.int .u32 (0 : Nat), .bool false]) ∧ Grew w w' := by
  have hW := fun (W w : World) (hg : Grew W w) => word_c c f d rd s1 s2 m h4 h5 h6 hm hg
  rw [hw] at hW
  obtain ⟨jc, jf, jd, j1, j2, j3, jm⟩ := j
  have hw32 : IntKind.u32.wrap (X : Int) = (X : Int) := wrap32c X hX
  have hXi : decide (4294967296 ≤ (X : Int)) = false := by rw [decide_eq_false_iff_not]; omega
  have HX := Lib.hid hXi
  have HW := Lib.hid hw32
  have HXN := Lib.hid hX
  have HJ := Lib.hid hj
  have HWC := Lib.hid hW
  clear hXi hw32 hX hj hW
  have i1 : ((rd : Nat) : Int) ≤ 31 := by omega
  have i2 : ((s1 : Nat) : Int) ≤ 31 := by omega
  have i3 : ((s2 : Nat) : Int) ≤ 31 := by omega
  clear hw
  have k0 := Blk.new w #[.int .i64 c, .int .i64 f, .bool d, .int .i64 (rd : Nat), .int .i64 (s1 : Nat), .int .i64 (s2 : Nat), .int .u64 (m : Nat)] 26 w.heap.size rfl
  have g0 := (Grew.refl w).alloc (.cells #[.int .i64 c, .int .i64 f, .bool d, .int .i64 (rd : Nat), .int .i64 (s1 : Nat), .int .i64 (s2 : Nat), .int .u64 (m : Nat)] 26)
  go_enter Try.func15, Try.ntmps15
  go_upto_region 3 with fail
  generalize w.alloc (.cells #[.int .i64 c, .int .i64 f, .bool d, .int .i64 (rd : Nat), .int .i64 (s1 : Nat), .int .i64 (s2 : Nat), .int .u64 (m : Nat)] 26) = wa at *
  have a0 : wa.cell? ⟨w.heap.size, 0, none⟩ = some (.int .i64 c) := k0.cell 0
  have a1 : wa.cell? ⟨w.heap.size, 1, none⟩ = some (.int .i64 f) := k0.cell 1
  have a2 : wa.cell? ⟨w.heap.size, 2, none⟩ = some (.bool d) := k0.cell 2
  have a3 : wa.cell? ⟨w.heap.size, 3, none⟩ = some (.int .i64 (rd : Nat)) := k0.cell 3
  have a4 : wa.cell? ⟨w.heap.size, 4, none⟩ = some (.int .i64 (s1 : Nat)) := k0.cell 4
  have a5 : wa.cell? ⟨w.heap.size, 5, none⟩ = some (.int .i64 (s2 : Nat)) := k0.cell 5
  have a6 : wa.cell? ⟨w.heap.size, 6, none⟩ = some (.int .u64 (m : Nat)) := k0.cell 6
  have hA := k0.lt
  go_wp2_with fail
  refine (HWC.out _ _ (Grew.refl _)).mono ?_
  rintro e w1 ⟨rfl, g1⟩
  have hXi := HX.out
  have hw32 := HW.out
  have k1 := k0.grew g1
  clear k0
  go_wp2_with fail
  refine (HJ.out _).mono ?_
  rintro e w2 ⟨rfl, g2⟩
  have k2 := (k1.grew g2).alloc (.cells #[.int .i64 jc, .int .i64 jf, .bool jd, .int .i64 j1, .int .i64 j2, .int .i64 j3, .int .u64 jm] 26)
  have k3 := Blk.new w2 #[.int .i64 jc, .int .i64 jf, .bool jd, .int .i64 j1, .int .i64 j2, .int .i64 j3, .int .u64 jm] 26 w2.heap.size rfl
  have G := ((g0.trans g1).trans g2).alloc (.cells #[.int .i64 jc, .int .i64 jf, .bool jd, .int .i64 j1, .int .i64 j2, .int .i64 j3, .int .u64 jm] 26)
  clear k1 g0 g1 g2
  go_upto_region 8 with fail
  generalize w2.alloc (.cells #[.int .i64 jc, .int .i64 jf, .bool jd, .int .i64 j1, .int .i64 j2, .int .i64 j3, .int .u64 jm] 26) = w3 at *
  generalize w2.heap.size = q at *
  have b0 : w3.cell? ⟨w.heap.size, 0, none⟩ = some (.int .i64 c) := k2.cell 0
  have b1 : w3.cell? ⟨w.heap.size, 1, none⟩ = some (.int .i64 f) := k2.cell 1
  have b2 : w3.cell? ⟨w.heap.size, 2, none⟩ = some (.bool d) := k2.cell 2
  have b3 : w3.cell? ⟨w.heap.size, 3, none⟩ = some (.int .i64 (rd : Nat)) := k2.cell 3
  have b4 : w3.cell? ⟨w.heap.size, 4, none⟩ = some (.int .i64 (s1 : Nat)) := k2.cell 4
  have b5 : w3.cell? ⟨w.heap.size, 5, none⟩ = some (.int .i64 (s2 : Nat)) := k2.cell 5
  have b6 : w3.cell? ⟨w.heap.size, 6, none⟩ = some (.int .u64 (m : Nat)) := k2.cell 6
  have e0 : w3.cell? ⟨q, 0, none⟩ = some (.int .i64 jc) := k3.cell 0
  have e1 : w3.cell? ⟨q, 1, none⟩ = some (.int .i64 jf) := k3.cell 1
  have e2 : w3.cell? ⟨q, 2, none⟩ = some (.bool jd) := k3.cell 2
  have e3 : w3.cell? ⟨q, 3, none⟩ = some (.int .i64 j1) := k3.cell 3
  have e4 : w3.cell? ⟨q, 4, none⟩ = some (.int .i64 j2) := k3.cell 4
  have e5 : w3.cell? ⟨q, 5, none⟩ = some (.int .i64 j3) := k3.cell 5
  have e6 : w3.cell? ⟨q, 6, none⟩ = some (.int .u64 jm) := k3.cell 6
  clear k2 k3
  go_wp2_with fail
  go_ret2
  exact ⟨rfl, G⟩
set_option maxHeartbeats 1000000 in
theorem re_ne (c f : Int) (d : Bool) (rd s1 s2 m : Nat) (h4 : rd < 32) (h5 : s1 < 32) (h6 : s2 < 32) (hm : m < 18446744073709551616) (X : Nat) (hX : X < 4294967296) (hw : wdN c f d rd s1 s2 m = X) (j : Ins) (he : eqI ⟨c, f, d, (rd : Nat), (s1 : Nat), (s2 : Nat), (m : Nat)⟩ j = false)
    (hj : ∀ w : World, Calls Try.prog 12 #[.int .u32 (X : Nat)] w fun e w' => e = .returned (.tuple #[iV j, .bool true]) ∧ Grew w w') (w : World) :
    Calls Try.prog 15 #[iP c f d rd s1 s2 m] w fun e w' => e = .returned (.tuple #[.int .u32 (0 : Nat), .bool false]) ∧ Grew w w' := by
  have hW := fun (W w : World) (hg : Grew W w) => word_c c f d rd s1 s2 m h4 h5 h6 hm hg
  rw [hw] at hW
  have heq := ins_neq ⟨c, f, d, (rd : Nat), (s1 : Nat), (s2 : Nat), (m : Nat)⟩ j false he
  clear he
  obtain ⟨jc, jf, jd, j1, j2, j3, jm⟩ := j
  have hw32 : IntKind.u32.wrap (X : Int) = (X : Int) := wrap32c X hX
  have hXi : decide (4294967296 ≤ (X : Int)) = false := by rw [decide_eq_false_iff_not]; omega
  have HX := Lib.hid hXi
  have HW := Lib.hid hw32
  have HXN := Lib.hid hX
  have HJ := Lib.hid hj
  have HWC := Lib.hid hW
  clear hXi hw32 hX hj hW
  have i1 : ((rd : Nat) : Int) ≤ 31 := by omega
  have i2 : ((s1 : Nat) : Int) ≤ 31 := by omega
  have i3 : ((s2 : Nat) : Int) ≤ 31 := by omega
  clear hw
  have k0 := Blk.new w #[.int .i64 c, .int .i64 f, .bool d, .int .i64 (rd : Nat), .int .i64 (s1 : Nat), .int .i64 (s2 : Nat), .int .u64 (m : Nat)] 26 w.heap.size rfl
  have g0 := (Grew.refl w).alloc (.cells #[.int .i64 c, .int .i64 f, .bool d, .int .i64 (rd : Nat), .int .i64 (s1 : Nat), .int .i64 (s2 : Nat), .int .u64 (m : Nat)] 26)
  go_enter Try.func15, Try.ntmps15
  go_upto_region 3 with fail
  generalize w.alloc (.cells #[.int .i64 c, .int .i64 f, .bool d, .int .i64 (rd : Nat), .int .i64 (s1 : Nat), .int .i64 (s2 : Nat), .int .u64 (m : Nat)] 26) = wa at *
  have a0 : wa.cell? ⟨w.heap.size, 0, none⟩ = some (.int .i64 c) := k0.cell 0
  have a1 : wa.cell? ⟨w.heap.size, 1, none⟩ = some (.int .i64 f) := k0.cell 1
  have a2 : wa.cell? ⟨w.heap.size, 2, none⟩ = some (.bool d) := k0.cell 2
  have a3 : wa.cell? ⟨w.heap.size, 3, none⟩ = some (.int .i64 (rd : Nat)) := k0.cell 3
  have a4 : wa.cell? ⟨w.heap.size, 4, none⟩ = some (.int .i64 (s1 : Nat)) := k0.cell 4
  have a5 : wa.cell? ⟨w.heap.size, 5, none⟩ = some (.int .i64 (s2 : Nat)) := k0.cell 5
  have a6 : wa.cell? ⟨w.heap.size, 6, none⟩ = some (.int .u64 (m : Nat)) := k0.cell 6
  have hA := k0.lt
  go_wp2_with fail
  refine (HWC.out _ _ (Grew.refl _)).mono ?_
  rintro e w1 ⟨rfl, g1⟩
  have hXi := HX.out
  have hw32 := HW.out
  have k1 := k0.grew g1
  clear k0
  go_wp2_with fail
  refine (HJ.out _).mono ?_
  rintro e w2 ⟨rfl, g2⟩
  have k2 := (k1.grew g2).alloc (.cells #[.int .i64 jc, .int .i64 jf, .bool jd, .int .i64 j1, .int .i64 j2, .int .i64 j3, .int .u64 jm] 26)
  have k3 := Blk.new w2 #[.int .i64 jc, .int .i64 jf, .bool jd, .int .i64 j1, .int .i64 j2, .int .i64 j3, .int .u64 jm] 26 w2.heap.size rfl
  have G := ((g0.trans g1).trans g2).alloc (.cells #[.int .i64 jc, .int .i64 jf, .bool jd, .int .i64 j1, .int .i64 j2, .int .i64 j3, .int .u64 jm] 26)
  clear k1 g0 g1 g2
  go_upto_region 8 with fail
  generalize w2.alloc (.cells #[.int .i64 jc, .int .i64 jf, .bool jd, .int .i64 j1, .int .i64 j2, .int .i64 j3, .int .u64 jm] 26) = w3 at *
  generalize w2.heap.size = q at *
  have b0 : w3.cell? ⟨w.heap.size, 0, none⟩ = some (.int .i64 c) := k2.cell 0
  have b1 : w3.cell? ⟨w.heap.size, 1, none⟩ = some (.int .i64 f) := k2.cell 1
  have b2 : w3.cell? ⟨w.heap.size, 2, none⟩ = some (.bool d) := k2.cell 2
  have b3 : w3.cell? ⟨w.heap.size, 3, none⟩ = some (.int .i64 (rd : Nat)) := k2.cell 3
  have b4 : w3.cell? ⟨w.heap.size, 4, none⟩ = some (.int .i64 (s1 : Nat)) := k2.cell 4
  have b5 : w3.cell? ⟨w.heap.size, 5, none⟩ = some (.int .i64 (s2 : Nat)) := k2.cell 5
  have b6 : w3.cell? ⟨w.heap.size, 6, none⟩ = some (.int .u64 (m : Nat)) := k2.cell 6
  have e0 : w3.cell? ⟨q, 0, none⟩ = some (.int .i64 jc) := k3.cell 0
  have e1 : w3.cell? ⟨q, 1, none⟩ = some (.int .i64 jf) := k3.cell 1
  have e2 : w3.cell? ⟨q, 2, none⟩ = some (.bool jd) := k3.cell 2
  have e3 : w3.cell? ⟨q, 3, none⟩ = some (.int .i64 j1) := k3.cell 3
  have e4 : w3.cell? ⟨q, 4, none⟩ = some (.int .i64 j2) := k3.cell 4
  have e5 : w3.cell? ⟨q, 5, none⟩ = some (.int .i64 j3) := k3.cell 5
  have e6 : w3.cell? ⟨q, 6, none⟩ = some (.int .u64 jm) := k3.cell 6
  clear k2 k3
  go_wp2_with fail
  go_ret2
  exact ⟨rfl, G⟩
set_option maxHeartbeats 1000000 in
theorem re_eq (c f : Int) (d : Bool) (rd s1 s2 m : Nat) (h4 : rd < 32) (h5 : s1 < 32) (h6 : s2 < 32) (hm : m < 18446744073709551616) (X : Nat) (hX : X < 4294967296) (hw : wdN c f d rd s1 s2 m = X) (j : Ins) (he : eqI ⟨c, f, d, (rd : Nat), (s1 : Nat), (s2 : Nat), (m : Nat)⟩ j = true)
    (hj : ∀ w : World, Calls Try.prog 12 #[.int .u32 (X : Nat)] w fun e w' => e = .returned (.tuple #[iV j, .bool true]) ∧ Grew w w') (w : World) :
    Calls Try.prog 15 #[iP c f d rd s1 s2 m] w fun e w' => e = .returned (.tuple #[.int .u32 (X : Nat), .bool true]) ∧ Grew w w' := by
  have hW := fun (W w : World) (hg : Grew W w) => word_c c f d rd s1 s2 m h4 h5 h6 hm hg
  rw [hw] at hW
  have heq := ins_neq ⟨c, f, d, (rd : Nat), (s1 : Nat), (s2 : Nat), (m : Nat)⟩ j true he
  clear he
  obtain ⟨jc, jf, jd, j1, j2, j3, jm⟩ := j
  have hw32 : IntKind.u32.wrap (X : Int) = (X : Int) := wrap32c X hX
  have hXi : decide (4294967296 ≤ (X : Int)) = false := by rw [decide_eq_false_iff_not]; omega
  have HX := Lib.hid hXi
  have HW := Lib.hid hw32
  have HXN := Lib.hid hX
  have HJ := Lib.hid hj
  have HWC := Lib.hid hW
  clear hXi hw32 hX hj hW
  have i1 : ((rd : Nat) : Int) ≤ 31 := by omega
  have i2 : ((s1 : Nat) : Int) ≤ 31 := by omega
  have i3 : ((s2 : Nat) : Int) ≤ 31 := by omega
  clear hw
  have k0 := Blk.new w #[.int .i64 c, .int .i64 f, .bool d, .int .i64 (rd : Nat), .int .i64 (s1 : Nat), .int .i64 (s2 : Nat), .int .u64 (m : Nat)] 26 w.heap.size rfl
  have g0 := (Grew.refl w).alloc (.cells #[.int .i64 c, .int .i64 f, .bool d, .int .i64 (rd : Nat), .int .i64 (s1 : Nat), .int .i64 (s2 : Nat), .int .u64 (m : Nat)] 26)
  go_enter Try.func15, Try.ntmps15
  go_upto_region 3 with fail
  generalize w.alloc (.cells #[.int .i64 c, .int .i64 f, .bool d, .int .i64 (rd : Nat), .int .i64 (s1 : Nat), .int .i64 (s2 : Nat), .int .u64 (m : Nat)] 26) = wa at *
  have a0 : wa.cell? ⟨w.heap.size, 0, none⟩ = some (.int .i64 c) := k0.cell 0
  have a1 : wa.cell? ⟨w.heap.size, 1, none⟩ = some (.int .i64 f) := k0.cell 1
  have a2 : wa.cell? ⟨w.heap.size, 2, none⟩ = some (.bool d) := k0.cell 2
  have a3 : wa.cell? ⟨w.heap.size, 3, none⟩ = some (.int .i64 (rd : Nat)) := k0.cell 3
  have a4 : wa.cell? ⟨w.heap.size, 4, none⟩ = some (.int .i64 (s1 : Nat)) := k0.cell 4
  have a5 : wa.cell? ⟨w.heap.size, 5, none⟩ = some (.int .i64 (s2 : Nat)) := k0.cell 5
  have a6 : wa.cell? ⟨w.heap.size, 6, none⟩ = some (.int .u64 (m : Nat)) := k0.cell 6
  have hA := k0.lt
  go_wp2_with fail
  refine (HWC.out _ _ (Grew.refl _)).mono ?_
  rintro e w1 ⟨rfl, g1⟩
  have hXi := HX.out
  have hw32 := HW.out
  have k1 := k0.grew g1
  clear k0
  go_wp2_with fail
  refine (HJ.out _).mono ?_
  rintro e w2 ⟨rfl, g2⟩
  have k2 := (k1.grew g2).alloc (.cells #[.int .i64 jc, .int .i64 jf, .bool jd, .int .i64 j1, .int .i64 j2, .int .i64 j3, .int .u64 jm] 26)
  have k3 := Blk.new w2 #[.int .i64 jc, .int .i64 jf, .bool jd, .int .i64 j1, .int .i64 j2, .int .i64 j3, .int .u64 jm] 26 w2.heap.size rfl
  have G := ((g0.trans g1).trans g2).alloc (.cells #[.int .i64 jc, .int .i64 jf, .bool jd, .int .i64 j1, .int .i64 j2, .int .i64 j3, .int .u64 jm] 26)
  clear k1 g0 g1 g2
  go_upto_region 8 with fail
  generalize w2.alloc (.cells #[.int .i64 jc, .int .i64 jf, .bool jd, .int .i64 j1, .int .i64 j2, .int .i64 j3, .int .u64 jm] 26) = w3 at *
  generalize w2.heap.size = q at *
  have b0 : w3.cell? ⟨w.heap.size, 0, none⟩ = some (.int .i64 c) := k2.cell 0
  have b1 : w3.cell? ⟨w.heap.size, 1, none⟩ = some (.int .i64 f) := k2.cell 1
  have b2 : w3.cell? ⟨w.heap.size, 2, none⟩ = some (.bool d) := k2.cell 2
  have b3 : w3.cell? ⟨w.heap.size, 3, none⟩ = some (.int .i64 (rd : Nat)) := k2.cell 3
  have b4 : w3.cell? ⟨w.heap.size, 4, none⟩ = some (.int .i64 (s1 : Nat)) := k2.cell 4
  have b5 : w3.cell? ⟨w.heap.size, 5, none⟩ = some (.int .i64 (s2 : Nat)) := k2.cell 5
  have b6 : w3.cell? ⟨w.heap.size, 6, none⟩ = some (.int .u64 (m : Nat)) := k2.cell 6
  have e0 : w3.cell? ⟨q, 0, none⟩ = some (.int .i64 jc) := k3.cell 0
  have e1 : w3.cell? ⟨q, 1, none⟩ = some (.int .i64 jf) := k3.cell 1
  have e2 : w3.cell? ⟨q, 2, none⟩ = some (.bool jd) := k3.cell 2
  have e3 : w3.cell? ⟨q, 3, none⟩ = some (.int .i64 j1) := k3.cell 3
  have e4 : w3.cell? ⟨q, 4, none⟩ = some (.int .i64 j2) := k3.cell 4
  have e5 : w3.cell? ⟨q, 5, none⟩ = some (.int .i64 j3) := k3.cell 5
  have e6 : w3.cell? ⟨q, 6, none⟩ = some (.int .u64 jm) := k3.cell 6
  clear k2 k3
  go_wp2_with fail
  go_ret2
  exact ⟨rfl, G⟩
theorem re_out (c f : Int) (d : Bool) (r1 r2 r3 : Int) (m : Nat) (q1 : -9223372036854775808 ≤ r1 ∧ r1 ≤ 9223372036854775807) (q2 : -9223372036854775808 ≤ r2 ∧ r2 ≤ 9223372036854775807) (q3 : -9223372036854775808 ≤ r3 ∧ r3 ≤ 9223372036854775807)
    (h : ¬ ((0 ≤ r1 ∧ r1 ≤ 31) ∧ (0 ≤ r2 ∧ r2 ≤ 31) ∧ (0 ≤ r3 ∧ r3 ≤ 31))) (w : World) :
    Calls Try.prog 15 #[.agg #[.int .i64 c, .int .i64 f, .bool d, .int .i64 r1, .int .i64 r2, .int .i64 r3, .int .u64 (m : Nat)]] w fun e w' => e = .returned (.tuple #[.int .u32 (0 : Nat), .bool false]) ∧ Grew w w' := by
  have hc : r1 < 0 ∨ (0 ≤ r1 ∧ 31 < r1) ∨ ((0 ≤ r1 ∧ r1 ≤ 31) ∧ r2 < 0) ∨ ((0 ≤ r1 ∧ r1 ≤ 31) ∧ 0 ≤ r2 ∧ 31 < r2) ∨ ((0 ≤ r1 ∧ r1 ≤ 31) ∧ (0 ≤ r2 ∧ r2 ≤ 31) ∧ r3 < 0) ∨ ((0 ≤ r1 ∧ r1 ≤ 31) ∧ (0 ≤ r2 ∧ r2 ≤ 31) ∧ 0 ≤ r3 ∧ 31 < r3) := by omega
  clear h
  rcases hc with h | ⟨h, h'⟩ | ⟨⟨h1, h2⟩, h⟩ | ⟨⟨h1, h2⟩, h3, h⟩ | ⟨⟨h1, h2⟩, ⟨h3, h5⟩, h⟩ | ⟨⟨h1, h2⟩, ⟨h3, h5⟩, h6, h⟩
  all_goals
    go_enter Try.func15, Try.ntmps15
    go_wp2_with fail
    go_ret2
    exact ⟨rfl, (Grew.refl w).alloc _⟩
theorem rEnc_c (c f r1 r2 r3 : Int) (d : Bool) (m : Nat) (hm : m < 18446744073709551616) (q1 : -9223372036854775808 ≤ r1 ∧ r1 ≤ 9223372036854775807) (q2 : -9223372036854775808 ≤ r2 ∧ r2 ≤ 9223372036854775807) (q3 : -9223372036854775808 ≤ r3 ∧ r3 ≤ 9223372036854775807) (w : World) :
    Calls Try.prog 15 #[.agg #[.int .i64 c, .int .i64 f, .bool d, .int .i64 r1, .int .i64 r2, .int .i64 r3, .int .u64 (m : Nat)]] w fun e w' => e = .returned (.tuple #[.int .u32 (if encB c f d r1 r2 r3 m then encN c f d r1 r2 r3 m else 0 : Nat), .bool (encB c f d r1 r2 r3 m)]) ∧ Grew w w' := by
  by_cases h : (0 ≤ r1 ∧ r1 ≤ 31) ∧ (0 ≤ r2 ∧ r2 ≤ 31) ∧ (0 ≤ r3 ∧ r3 ≤ 31)
  · obtain ⟨⟨a0, a1⟩, ⟨b0, b1⟩, ⟨c0, c1⟩⟩ := h
    obtain ⟨rd, rfl⟩ := Int.eq_ofNat_of_zero_le a0
    obtain ⟨s1, rfl⟩ := Int.eq_ofNat_of_zero_le b0
    obtain ⟨s2, rfl⟩ := Int.eq_ofNat_of_zero_le c0
    have h4 : rd < 32 := by omega
    have h5 : s1 < 32 := by omega
    have h6 : s2 < 32 := by omega
    have hX := wdN_lt c f d rd s1 s2 m h4 h5 h6
    obtain ⟨X, hw⟩ : ∃ X, wdN c f d rd s1 s2 m = X := ⟨_, rfl⟩
    rw [hw] at hX
    have hj := fun w => refDec_c X hX w
    cases hn : noB (kOf X)
    · rw [hn] at hj
      simp only [Bool.false_eq_true, if_false, Bool.not_false] at hj
      cases he : eqI ⟨c, f, d, (rd : Nat), (s1 : Nat), (s2 : Nat), (m : Nat)⟩ (decI X)
      · have hb : encB c f d (rd : Nat) (s1 : Nat) (s2 : Nat) m = false := by
          cases hb : encB c f d (rd : Nat) (s1 : Nat) (s2 : Nat) m
          · rfl
          · obtain ⟨_, _, _, h7⟩ := enc_in c f d _ _ _ m hb
            have h8 : wdN c f d rd s1 s2 m = encN c f d (rd : Nat) (s1 : Nat) (s2 : Nat) m := h7
            unfold encB at hb
            rw [← h8, hw] at hb
            simp only [Bool.and_eq_true] at hb
            have h9 := (eqI_iff' _ _).1 hb.2
            rw [h9, (eqI_iff' _ _).2 rfl] at he
            cases he
        rw [hb]
        exact re_ne c f d rd s1 s2 m h4 h5 h6 hm X hX hw (decI X) he hj w
      · have hd := (eqI_iff' _ _).1 he
        obtain ⟨hb, hE⟩ := enc_back c f d rd s1 s2 m X hX hw hn hd.symm
        rw [hb, if_pos rfl, hE]
        exact re_eq c f d rd s1 s2 m h4 h5 h6 hm X hX hw (decI X) he hj w
    · rw [hn] at hj
      simp only [if_true, Bool.not_true] at hj
      have hb : encB c f d (rd : Nat) (s1 : Nat) (s2 : Nat) m = false := by
        cases hb : encB c f d (rd : Nat) (s1 : Nat) (s2 : Nat) m
        · rfl
        · obtain ⟨_, _, _, h7⟩ := enc_in c f d _ _ _ m hb
          have h8 : wdN c f d rd s1 s2 m = encN c f d (rd : Nat) (s1 : Nat) (s2 : Nat) m := h7
          unfold encB at hb
          rw [← h8, hw, hn] at hb
          cases hb
      rw [hb]
      exact re_no c f d rd s1 s2 m h4 h5 h6 hm X hX hw noI hj w
  · have hb : encB c f d r1 r2 r3 m = false := by
      cases hb : encB c f d r1 r2 r3 m
      · rfl
      · obtain ⟨x1, x2, x3, _⟩ := enc_in c f d _ _ _ m hb
        exact absurd ⟨x1, x2, x3⟩ h
    rw [hb]
    exact re_out c f d r1 r2 r3 m q1 q2 q3 h w
end Go.Proofs.Ytgekmhcekkmdhaa
