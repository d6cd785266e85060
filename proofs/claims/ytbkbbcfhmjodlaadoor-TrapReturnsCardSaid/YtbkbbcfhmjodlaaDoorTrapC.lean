/-
  The document's traps (drawbridgeref06): Pending, Mret, Sret, Enter.
-/
import Derived.Test.YtbkbbcfhmjodlaaDoorTrapB
set_option linter.unusedVariables false
set_option linter.unusedSimpArgs false
namespace Go.Proofs.YtbkbbcfhmjodlaaDoor
open Go.RowKit

theorem bit_l (x : Nat) (hx : x < 2 ^ 64) (n : Nat) (N : Int) (hN : N = (n : Int)) (hn : n < 64) (w : World) : Calls Tryd.prog 26 #[.int .u64 (x : Nat), .int .i64 N] w fun e w' => e = .returned (.int .u64 (bitN x n : Nat)) ∧ w = w' := by
  subst hN
  exact bit_c x n hx hn w
theorem set_l (x : Nat) (hx : x < 2 ^ 64) (n : Nat) (N : Int) (hN : N = (n : Int)) (hn : n < 64) (b : Nat) (B : Int) (hB : B = (b : Int)) (hb : b < 2) (w : World) : Calls Tryd.prog 27 #[.int .u64 (x : Nat), .int .i64 N, .int .u64 B] w fun e w' => e = .returned (.int .u64 (setN x n b : Nat)) ∧ w = w' := by
  subst hN hB
  exact set_c x n b hx hn hb w
/-- Which interrupt comes. -/
def penA (m e d s : Nat) (p : Int) : Bool := (decide (p < 3) || s.testBit 3) && firB (ndn (m &&& e) d)
def penC (s : Nat) (p : Int) : Bool := decide (p < 1) || (p == 1 && s.testBit 1)
def penI (m e d s : Nat) (p : Int) : Int := if penA m e d s p = true then firI (ndn (m &&& e) d) else if penC s p = true then firI (m &&& e &&& d) else 0
def penB (m e d s : Nat) (p : Int) : Bool := if penA m e d s p = true then true else if penC s p = true then firB (m &&& e &&& d) else false

set_option maxRecDepth 100000 in
set_option maxHeartbeats 1000000 in
theorem pend_a1 (c : Nat → Int) (m e d s : Nat) (hm : m < 2 ^ 64) (he : e < 2 ^ 64) (hd : d < 2 ^ 64) (hs : s < 2 ^ 64) (c4 : c 4 = (m : Int)) (c3 : c 3 = (e : Int)) (c2 : c 2 = (d : Int)) (c0 : c 0 = (s : Int)) (p : Int) (p3 : decide (p < 3) = true) (b1 : firB (ndn (m &&& e) d) = true) {W w : World} (hg : Grew W w) :
    Calls Tryd.prog 16 #[csV c, .int .i64 p] w fun e' w' => e' = .returned (.tuple #[.int .i64 (firI (ndn (m &&& e) d)), .bool true]) ∧ Grew W w' := by
  have E1 := b_and m e hm he
  have E2 := b_not _ d (and_lt m e hm) hd
  have E3 := b_and _ d (and_lt m e hm) hd
  have X1 := Lib.hid (ndn_lt (m &&& e) d (and_lt m e hm))
  have X2 := Lib.hid (and_lt (m &&& e) d (and_lt m e hm))
  have HS := Lib.hid hs
  clear hm he hd hs
  go_enter Tryd.func16, Tryd.ntmps16
  go_wp2_with (first
    | (go_at_call 26; refine (bit_l s HS.out 3 3 rfl (by decide) _).mono ?_; rintro e' w2 ⟨rfl, h2⟩; obtain rfl := h2.symm)
    | fail)
  refine (first_c _ X1.out (Grew.refl _)).mono ?_
  rintro e' w1 ⟨rfl, g1'⟩
  have g1 := (hg.alloc (.cells (csA c) 24)).trans g1'
  have kb := (Blk.new w (csA c) 24 _ rfl).grew g1'
  have y0 : w1.cell? ⟨w.heap.size, 0, none⟩ = some (.int .u64 (s : Nat)) := by rw [kb.cell, csA_0, c0]
  have y2 : w1.cell? ⟨w.heap.size, 2, none⟩ = some (.int .u64 (d : Nat)) := by rw [kb.cell, csA_2, c2]
  clear kb
  go_wp2_with (first
    | (go_at_call 26; refine (bit_l s HS.out 1 1 rfl (by decide) _).mono ?_; rintro e' w2 ⟨rfl, h2⟩; obtain rfl := h2.symm)
    | (go_at_call 30; refine (first_c _ X2.out g1).mono ?_; rintro e' w3 ⟨rfl, g3⟩))
  go_ret2
  exact ⟨rfl, g1⟩

set_option maxRecDepth 100000 in
set_option maxHeartbeats 1000000 in
theorem pend_a2 (c : Nat → Int) (m e d s : Nat) (hm : m < 2 ^ 64) (he : e < 2 ^ 64) (hd : d < 2 ^ 64) (hs : s < 2 ^ 64) (c4 : c 4 = (m : Int)) (c3 : c 3 = (e : Int)) (c2 : c 2 = (d : Int)) (c0 : c 0 = (s : Int)) (p : Int) (s3 : (((bitN s 3 : Nat) : Int) == 1) = true) (p3 : decide (p < 3) = false) (b1 : firB (ndn (m &&& e) d) = true) {W w : World} (hg : Grew W w) :
    Calls Tryd.prog 16 #[csV c, .int .i64 p] w fun e' w' => e' = .returned (.tuple #[.int .i64 (firI (ndn (m &&& e) d)), .bool true]) ∧ Grew W w' := by
  have E1 := b_and m e hm he
  have E2 := b_not _ d (and_lt m e hm) hd
  have E3 := b_and _ d (and_lt m e hm) hd
  have X1 := Lib.hid (ndn_lt (m &&& e) d (and_lt m e hm))
  have X2 := Lib.hid (and_lt (m &&& e) d (and_lt m e hm))
  have HS := Lib.hid hs
  clear hm he hd hs
  go_enter Tryd.func16, Tryd.ntmps16
  go_wp2_with (first
    | (go_at_call 26; refine (bit_l s HS.out 3 3 rfl (by decide) _).mono ?_; rintro e' w2 ⟨rfl, h2⟩; obtain rfl := h2.symm)
    | fail)
  refine (first_c _ X1.out (Grew.refl _)).mono ?_
  rintro e' w1 ⟨rfl, g1'⟩
  have g1 := (hg.alloc (.cells (csA c) 24)).trans g1'
  have kb := (Blk.new w (csA c) 24 _ rfl).grew g1'
  have y0 : w1.cell? ⟨w.heap.size, 0, none⟩ = some (.int .u64 (s : Nat)) := by rw [kb.cell, csA_0, c0]
  have y2 : w1.cell? ⟨w.heap.size, 2, none⟩ = some (.int .u64 (d : Nat)) := by rw [kb.cell, csA_2, c2]
  clear kb
  go_wp2_with (first
    | (go_at_call 26; refine (bit_l s HS.out 1 1 rfl (by decide) _).mono ?_; rintro e' w2 ⟨rfl, h2⟩; obtain rfl := h2.symm)
    | (go_at_call 30; refine (first_c _ X2.out g1).mono ?_; rintro e' w3 ⟨rfl, g3⟩))
  go_ret2
  exact ⟨rfl, g1⟩

set_option maxRecDepth 100000 in
set_option maxHeartbeats 1000000 in
theorem pend_u (c : Nat → Int) (m e d s : Nat) (hm : m < 2 ^ 64) (he : e < 2 ^ 64) (hd : d < 2 ^ 64) (hs : s < 2 ^ 64) (c4 : c 4 = (m : Int)) (c3 : c 3 = (e : Int)) (c2 : c 2 = (d : Int)) (c0 : c 0 = (s : Int)) (p : Int) (p3 : decide (p < 3) = true) (p1 : decide (p < 1) = true) (b1 : firB (ndn (m &&& e) d) = false) {W w : World} (hg : Grew W w) :
    Calls Tryd.prog 16 #[csV c, .int .i64 p] w fun e' w' => e' = .returned (.tuple #[.int .i64 (firI (m &&& e &&& d)), .bool (firB (m &&& e &&& d))]) ∧ Grew W w' := by
  have E1 := b_and m e hm he
  have E2 := b_not _ d (and_lt m e hm) hd
  have E3 := b_and _ d (and_lt m e hm) hd
  have X1 := Lib.hid (ndn_lt (m &&& e) d (and_lt m e hm))
  have X2 := Lib.hid (and_lt (m &&& e) d (and_lt m e hm))
  have HS := Lib.hid hs
  clear hm he hd hs
  go_enter Tryd.func16, Tryd.ntmps16
  go_wp2_with (first
    | (go_at_call 26; refine (bit_l s HS.out 3 3 rfl (by decide) _).mono ?_; rintro e' w2 ⟨rfl, h2⟩; obtain rfl := h2.symm)
    | fail)
  refine (first_c _ X1.out (Grew.refl _)).mono ?_
  rintro e' w1 ⟨rfl, g1'⟩
  have g1 := (hg.alloc (.cells (csA c) 24)).trans g1'
  have kb := (Blk.new w (csA c) 24 _ rfl).grew g1'
  have y0 : w1.cell? ⟨w.heap.size, 0, none⟩ = some (.int .u64 (s : Nat)) := by rw [kb.cell, csA_0, c0]
  have y2 : w1.cell? ⟨w.heap.size, 2, none⟩ = some (.int .u64 (d : Nat)) := by rw [kb.cell, csA_2, c2]
  clear kb
  go_wp2_with (first
    | (go_at_call 26; refine (bit_l s HS.out 1 1 rfl (by decide) _).mono ?_; rintro e' w2 ⟨rfl, h2⟩; obtain rfl := h2.symm)
    | (go_at_call 30; refine (first_c _ X2.out g1).mono ?_; rintro e' w3 ⟨rfl, g3⟩))
  go_ret2
  exact ⟨rfl, g3⟩

set_option maxRecDepth 100000 in
set_option maxHeartbeats 1000000 in
theorem pend_s1 (c : Nat → Int) (m e d s : Nat) (hm : m < 2 ^ 64) (he : e < 2 ^ 64) (hd : d < 2 ^ 64) (hs : s < 2 ^ 64) (c4 : c 4 = (m : Int)) (c3 : c 3 = (e : Int)) (c2 : c 2 = (d : Int)) (c0 : c 0 = (s : Int)) (b1 : firB (ndn (m &&& e) d) = false) (s1 : (((bitN s 1 : Nat) : Int) == 1) = true) {W w : World} (hg : Grew W w) :
    Calls Tryd.prog 16 #[csV c, .int .i64 1] w fun e' w' => e' = .returned (.tuple #[.int .i64 (firI (m &&& e &&& d)), .bool (firB (m &&& e &&& d))]) ∧ Grew W w' := by
  have E1 := b_and m e hm he
  have E2 := b_not _ d (and_lt m e hm) hd
  have E3 := b_and _ d (and_lt m e hm) hd
  have X1 := Lib.hid (ndn_lt (m &&& e) d (and_lt m e hm))
  have X2 := Lib.hid (and_lt (m &&& e) d (and_lt m e hm))
  have HS := Lib.hid hs
  clear hm he hd hs
  go_enter Tryd.func16, Tryd.ntmps16
  go_wp2_with (first
    | (go_at_call 26; refine (bit_l s HS.out 3 3 rfl (by decide) _).mono ?_; rintro e' w2 ⟨rfl, h2⟩; obtain rfl := h2.symm)
    | fail)
  refine (first_c _ X1.out (Grew.refl _)).mono ?_
  rintro e' w1 ⟨rfl, g1'⟩
  have g1 := (hg.alloc (.cells (csA c) 24)).trans g1'
  have kb := (Blk.new w (csA c) 24 _ rfl).grew g1'
  have y0 : w1.cell? ⟨w.heap.size, 0, none⟩ = some (.int .u64 (s : Nat)) := by rw [kb.cell, csA_0, c0]
  have y2 : w1.cell? ⟨w.heap.size, 2, none⟩ = some (.int .u64 (d : Nat)) := by rw [kb.cell, csA_2, c2]
  clear kb
  go_wp2_with (first
    | (go_at_call 26; refine (bit_l s HS.out 1 1 rfl (by decide) _).mono ?_; rintro e' w2 ⟨rfl, h2⟩; obtain rfl := h2.symm)
    | (go_at_call 30; refine (first_c _ X2.out g1).mono ?_; rintro e' w3 ⟨rfl, g3⟩))
  go_ret2
  exact ⟨rfl, g3⟩

set_option maxRecDepth 100000 in
set_option maxHeartbeats 1000000 in
theorem pend_s0 (c : Nat → Int) (m e d s : Nat) (hm : m < 2 ^ 64) (he : e < 2 ^ 64) (hd : d < 2 ^ 64) (hs : s < 2 ^ 64) (c4 : c 4 = (m : Int)) (c3 : c 3 = (e : Int)) (c2 : c 2 = (d : Int)) (c0 : c 0 = (s : Int)) (b1 : firB (ndn (m &&& e) d) = false) (s1 : (((bitN s 1 : Nat) : Int) == 1) = false) {W w : World} (hg : Grew W w) :
    Calls Tryd.prog 16 #[csV c, .int .i64 1] w fun e' w' => e' = .returned (.tuple #[.int .i64 (0), .bool false]) ∧ Grew W w' := by
  have E1 := b_and m e hm he
  have E2 := b_not _ d (and_lt m e hm) hd
  have E3 := b_and _ d (and_lt m e hm) hd
  have X1 := Lib.hid (ndn_lt (m &&& e) d (and_lt m e hm))
  have X2 := Lib.hid (and_lt (m &&& e) d (and_lt m e hm))
  have HS := Lib.hid hs
  clear hm he hd hs
  go_enter Tryd.func16, Tryd.ntmps16
  go_wp2_with (first
    | (go_at_call 26; refine (bit_l s HS.out 3 3 rfl (by decide) _).mono ?_; rintro e' w2 ⟨rfl, h2⟩; obtain rfl := h2.symm)
    | fail)
  refine (first_c _ X1.out (Grew.refl _)).mono ?_
  rintro e' w1 ⟨rfl, g1'⟩
  have g1 := (hg.alloc (.cells (csA c) 24)).trans g1'
  have kb := (Blk.new w (csA c) 24 _ rfl).grew g1'
  have y0 : w1.cell? ⟨w.heap.size, 0, none⟩ = some (.int .u64 (s : Nat)) := by rw [kb.cell, csA_0, c0]
  have y2 : w1.cell? ⟨w.heap.size, 2, none⟩ = some (.int .u64 (d : Nat)) := by rw [kb.cell, csA_2, c2]
  clear kb
  go_wp2_with (first
    | (go_at_call 26; refine (bit_l s HS.out 1 1 rfl (by decide) _).mono ?_; rintro e' w2 ⟨rfl, h2⟩; obtain rfl := h2.symm)
    | (go_at_call 30; refine (first_c _ X2.out g1).mono ?_; rintro e' w3 ⟨rfl, g3⟩))
  go_ret2
  exact ⟨rfl, g1⟩

set_option maxRecDepth 100000 in
set_option maxHeartbeats 1000000 in
theorem pend_h (c : Nat → Int) (m e d s : Nat) (hm : m < 2 ^ 64) (he : e < 2 ^ 64) (hd : d < 2 ^ 64) (hs : s < 2 ^ 64) (c4 : c 4 = (m : Int)) (c3 : c 3 = (e : Int)) (c2 : c 2 = (d : Int)) (c0 : c 0 = (s : Int)) (p : Int) (p3 : decide (p < 3) = true) (p1 : decide (p < 1) = false) (q1 : (p == 1) = false) (b1 : firB (ndn (m &&& e) d) = false) {W w : World} (hg : Grew W w) :
    Calls Tryd.prog 16 #[csV c, .int .i64 p] w fun e' w' => e' = .returned (.tuple #[.int .i64 (0), .bool false]) ∧ Grew W w' := by
  have E1 := b_and m e hm he
  have E2 := b_not _ d (and_lt m e hm) hd
  have E3 := b_and _ d (and_lt m e hm) hd
  have X1 := Lib.hid (ndn_lt (m &&& e) d (and_lt m e hm))
  have X2 := Lib.hid (and_lt (m &&& e) d (and_lt m e hm))
  have HS := Lib.hid hs
  clear hm he hd hs
  go_enter Tryd.func16, Tryd.ntmps16
  go_wp2_with (first
    | (go_at_call 26; refine (bit_l s HS.out 3 3 rfl (by decide) _).mono ?_; rintro e' w2 ⟨rfl, h2⟩; obtain rfl := h2.symm)
    | fail)
  refine (first_c _ X1.out (Grew.refl _)).mono ?_
  rintro e' w1 ⟨rfl, g1'⟩
  have g1 := (hg.alloc (.cells (csA c) 24)).trans g1'
  have kb := (Blk.new w (csA c) 24 _ rfl).grew g1'
  have y0 : w1.cell? ⟨w.heap.size, 0, none⟩ = some (.int .u64 (s : Nat)) := by rw [kb.cell, csA_0, c0]
  have y2 : w1.cell? ⟨w.heap.size, 2, none⟩ = some (.int .u64 (d : Nat)) := by rw [kb.cell, csA_2, c2]
  clear kb
  go_wp2_with (first
    | (go_at_call 26; refine (bit_l s HS.out 1 1 rfl (by decide) _).mono ?_; rintro e' w2 ⟨rfl, h2⟩; obtain rfl := h2.symm)
    | (go_at_call 30; refine (first_c _ X2.out g1).mono ?_; rintro e' w3 ⟨rfl, g3⟩))
  go_ret2
  exact ⟨rfl, g1⟩

set_option maxRecDepth 100000 in
set_option maxHeartbeats 1000000 in
theorem pend_m1 (c : Nat → Int) (m e d s : Nat) (hm : m < 2 ^ 64) (he : e < 2 ^ 64) (hd : d < 2 ^ 64) (hs : s < 2 ^ 64) (c4 : c 4 = (m : Int)) (c3 : c 3 = (e : Int)) (c2 : c 2 = (d : Int)) (c0 : c 0 = (s : Int)) (p : Int) (p3 : decide (p < 3) = false) (p1 : decide (p < 1) = false) (q1 : (p == 1) = false) (s3 : (((bitN s 3 : Nat) : Int) == 1) = true) (b1 : firB (ndn (m &&& e) d) = false) {W w : World} (hg : Grew W w) :
    Calls Tryd.prog 16 #[csV c, .int .i64 p] w fun e' w' => e' = .returned (.tuple #[.int .i64 (0), .bool false]) ∧ Grew W w' := by
  have E1 := b_and m e hm he
  have E2 := b_not _ d (and_lt m e hm) hd
  have E3 := b_and _ d (and_lt m e hm) hd
  have X1 := Lib.hid (ndn_lt (m &&& e) d (and_lt m e hm))
  have X2 := Lib.hid (and_lt (m &&& e) d (and_lt m e hm))
  have HS := Lib.hid hs
  clear hm he hd hs
  go_enter Tryd.func16, Tryd.ntmps16
  go_wp2_with (first
    | (go_at_call 26; refine (bit_l s HS.out 3 3 rfl (by decide) _).mono ?_; rintro e' w2 ⟨rfl, h2⟩; obtain rfl := h2.symm)
    | fail)
  refine (first_c _ X1.out (Grew.refl _)).mono ?_
  rintro e' w1 ⟨rfl, g1'⟩
  have g1 := (hg.alloc (.cells (csA c) 24)).trans g1'
  have kb := (Blk.new w (csA c) 24 _ rfl).grew g1'
  have y0 : w1.cell? ⟨w.heap.size, 0, none⟩ = some (.int .u64 (s : Nat)) := by rw [kb.cell, csA_0, c0]
  have y2 : w1.cell? ⟨w.heap.size, 2, none⟩ = some (.int .u64 (d : Nat)) := by rw [kb.cell, csA_2, c2]
  clear kb
  go_wp2_with (first
    | (go_at_call 26; refine (bit_l s HS.out 1 1 rfl (by decide) _).mono ?_; rintro e' w2 ⟨rfl, h2⟩; obtain rfl := h2.symm)
    | (go_at_call 30; refine (first_c _ X2.out g1).mono ?_; rintro e' w3 ⟨rfl, g3⟩))
  go_ret2
  exact ⟨rfl, g1⟩

set_option maxRecDepth 100000 in
theorem pend_m0 (c : Nat → Int) (m e s : Nat) (hm : m < 2 ^ 64) (he : e < 2 ^ 64) (hs : s < 2 ^ 64) (c4 : c 4 = (m : Int)) (c3 : c 3 = (e : Int)) (c0 : c 0 = (s : Int)) (p : Int) (p3 : decide (p < 3) = false) (p1 : decide (p < 1) = false) (q1 : (p == 1) = false) (s3 : (((bitN s 3 : Nat) : Int) == 1) = false) {W w : World} (hg : Grew W w) :
    Calls Tryd.prog 16 #[csV c, .int .i64 p] w fun e' w' => e' = .returned (.tuple #[.int .i64 0, .bool false]) ∧ Grew W w' := by
  have E1 := b_and m e hm he
  have HS := Lib.hid hs
  clear hm he hs
  go_enter Tryd.func16, Tryd.ntmps16
  go_wp2_with (go_at_call 26; refine (bit_l s HS.out 3 3 rfl (by decide) _).mono ?_; rintro e' w2 ⟨rfl, h2⟩; obtain rfl := h2.symm)
  go_ret2
  exact ⟨rfl, hg.alloc _⟩
theorem bit_is (s n : Nat) (b : Bool) (h : s.testBit n = b) : (((bitN s n : Nat) : Int) == 1) = b := by
  rw [bit_bool, h]
  cases b <;> rfl
theorem pend_c (c : Nat → Int) (m e d s : Nat) (hm : m < 2 ^ 64) (he : e < 2 ^ 64) (hd : d < 2 ^ 64) (hs : s < 2 ^ 64) (c4 : c 4 = (m : Int)) (c3 : c 3 = (e : Int)) (c2 : c 2 = (d : Int)) (c0 : c 0 = (s : Int)) (p : Int) {W w : World} (hg : Grew W w) :
    Calls Tryd.prog 16 #[csV c, .int .i64 p] w fun e' w' => e' = .returned (.tuple #[.int .i64 (penI m e d s p), .bool (penB m e d s p)]) ∧ Grew W w' := by
  unfold penI penB penA penC
  cases p3 : decide (p < 3)
  · have p1 : decide (p < 1) = false := by
      rw [decide_eq_false_iff_not] at p3 ⊢
      omega
    have q1 : (p == 1) = false := by
      rw [decide_eq_false_iff_not] at p3
      rw [beq_eq_false_iff_ne]
      omega
    rw [p1, q1]
    cases h3 : s.testBit 3
    · simpa using pend_m0 c m e s hm he hs c4 c3 c0 p p3 p1 q1 (bit_is s 3 _ h3) hg
    · cases b1 : firB (ndn (m &&& e) d)
      · simpa using pend_m1 c m e d s hm he hd hs c4 c3 c2 c0 p p3 p1 q1 (bit_is s 3 _ h3) b1 hg
      · simpa using pend_a2 c m e d s hm he hd hs c4 c3 c2 c0 p (bit_is s 3 _ h3) p3 b1 hg
  · cases b1 : firB (ndn (m &&& e) d)
    · cases p1 : decide (p < 1)
      · cases q1 : p == 1
        · simpa using pend_h c m e d s hm he hd hs c4 c3 c2 c0 p p3 p1 q1 b1 hg
        · obtain rfl : p = 1 := by simpa using q1
          cases h1 : s.testBit 1
          · simpa using pend_s0 c m e d s hm he hd hs c4 c3 c2 c0 b1 (bit_is s 1 _ h1) hg
          · simpa using pend_s1 c m e d s hm he hd hs c4 c3 c2 c0 b1 (bit_is s 1 _ h1) hg
      · simpa using pend_u c m e d s hm he hd hs c4 c3 c2 c0 p p3 p1 b1 hg
    · simpa using pend_a1 c m e d s hm he hd hs c4 c3 c2 c0 p p3 b1 hg
end Go.Proofs.YtbkbbcfhmjodlaaDoor
