/-
  Contract of package decode: Encode.
-/
import Derived.Test.YtgekmhcekkmdhaaDecE
import Derived.Test.YtgekmhcekkmdhaaDecF
import Derived.Deep.RegionHeld3
set_option linter.unusedVariables false
set_option linter.unusedSimpArgs false
namespace Go.Proofs.Ytgekmhcekkmdhaa
open Go.RowKit

/-- The word that Encode tries. -/
def encN (c f : Int) (d : Bool) (r1 r2 r3 : Int) (m : Nat) : Nat := fixN c f d ||| sprN (shp c f) r1 r2 r3 m
theorem sprN_lt (c f r1 r2 r3 : Int) (m : Nat) : sprN (shp c f) r1 r2 r3 m < 4294967296 := by
  have h1 := lowN_lt r1 5
  have h2 := lowN_lt r2 5
  have h3 := lowN_lt r3 5
  refine spK_lt m _ (shp_ok c f) _ ?_ _ (Nat.le_refl _)
  unfold accN
  refine or32_lt (or32_lt ?_ ?_) ?_
  · exact ite_lt (Nat.lt_of_lt_of_le (Nat.mul_lt_mul_of_pos_right h1 (by decide)) (by decide)) (by decide)
  · exact ite_lt (Nat.lt_of_lt_of_le (Nat.mul_lt_mul_of_pos_right h2 (by decide)) (by decide)) (by decide)
  · exact ite_lt (Nat.lt_of_lt_of_le (Nat.mul_lt_mul_of_pos_right h3 (by decide)) (by decide)) (by decide)
theorem encN_lt (c f : Int) (d : Bool) (r1 r2 r3 : Int) (m : Nat) : encN c f d r1 r2 r3 m < 4294967296 := or32_lt (fixN_lt c f d) (sprN_lt c f r1 r2 r3 m)
theorem encN_or (c f : Int) (d : Bool) (r1 r2 r3 : Int) (m : Nat) : bits .or .u64 (fixN c f d : Nat) (sprN (shp c f) r1 r2 r3 m : Nat) = (encN c f d r1 r2 r3 m : Nat) :=
  or64 _ _ (Nat.lt_of_lt_of_le (fixN_lt c f d) (by decide)) (Nat.lt_of_lt_of_le (sprN_lt c f r1 r2 r3 m) (by decide))
theorem ins_neq (i j : Ins) (b : Bool) (h : eqI i j = b) (w : World) : (binOp .neq 26 (.agg #[.int .i64 i.c, .int .i64 i.f, .bool i.d, .int .i64 i.r1, .int .i64 i.r2, .int .i64 i.r3, .int .u64 i.m]) (.agg #[.int .i64 j.c, .int .i64 j.f, .bool j.d, .int .i64 j.r1, .int .i64 j.r2, .int .i64 j.r3, .int .u64 j.m])).run Try.prog w = .ok (.bool (!b)) w := by
  have h1 := ins_eql i j w
  rw [h] at h1
  rw [run_eql_struct] at h1
  rw [run_neq_struct]
  cases hr : (Op.equalIn 10000 26 (.agg #[.int .i64 i.c, .int .i64 i.f, .bool i.d, .int .i64 i.r1, .int .i64 i.r2, .int .i64 i.r3, .int .u64 i.m]) (.agg #[.int .i64 j.c, .int .i64 j.f, .bool j.d, .int .i64 j.r1, .int .i64 j.r2, .int .i64 j.r3, .int .u64 j.m])).run Try.prog w with
  | ok a w' =>
    rw [hr] at h1
    simp only [Result.andThen] at h1 ⊢
    injection h1 with h2 h3
    injection h2 with h4
    rw [h4, h3]
  | halt x w' =>
    rw [hr] at h1
    simp [Result.andThen] at h1
set_option maxHeartbeats 1000000 in
theorem enc_no (c f r1 r2 r3 : Int) (d : Bool) (m : Nat) (hm : m < 18446744073709551616) (hf0 : -9223372036854775808 ≤ f) (hf1 : f ≤ 9223372036854775807) (q1 : -9223372036854775808 ≤ r1 ∧ r1 ≤ 9223372036854775807) (q2 : -9223372036854775808 ≤ r2 ∧ r2 ≤ 9223372036854775807) (q3 : -9223372036854775808 ≤ r3 ∧ r3 ≤ 9223372036854775807) (w : World) (hno : noB (kOf (encN c f d r1 r2 r3 m)) = true) :
    Calls Try.prog 14 #[.agg #[.int .i64 c, .int .i64 f, .bool d, .int .i64 r1, .int .i64 r2, .int .i64 r3, .int .u64 (m : Nat)]] w fun e w' => e = .returned (.tuple #[.int .u32 0, .bool false]) ∧ Grew w w' := by
  have hE := encN_or c f d r1 r2 r3 m
  have hEl := encN_lt c f d r1 r2 r3 m
  have HD := Lib.hid (@decode_c (encN c f d r1 r2 r3 m) hEl)
  generalize encN c f d r1 r2 r3 m = E at *
  have ka := Blk.new w #[.int .i64 c, .int .i64 f, .bool d, .int .i64 r1, .int .i64 r2, .int .i64 r3, .int .u64 (m : Nat)] 26 w.heap.size rfl
  have ga := (Grew.refl w).alloc (.cells #[.int .i64 c, .int .i64 f, .bool d, .int .i64 r1, .int .i64 r2, .int .i64 r3, .int .u64 (m : Nat)] 26)
  have HE := Lib.hid hE
  clear hE
  go_enter Try.func14, Try.ntmps14
  go_upto_region 1 with fail
  generalize w.alloc (.cells #[.int .i64 c, .int .i64 f, .bool d, .int .i64 r1, .int .i64 r2, .int .i64 r3, .int .u64 (m : Nat)] 26) = wa at *
  have a0 : wa.cell? ⟨w.heap.size, 0, none⟩ = some (.int .i64 c) := ka.cell 0
  have a1 : wa.cell? ⟨w.heap.size, 1, none⟩ = some (.int .i64 f) := ka.cell 1
  have a2 : wa.cell? ⟨w.heap.size, 2, none⟩ = some (.bool d) := ka.cell 2
  have a3 : wa.cell? ⟨w.heap.size, 3, none⟩ = some (.int .i64 r1) := ka.cell 3
  have a4 : wa.cell? ⟨w.heap.size, 4, none⟩ = some (.int .i64 r2) := ka.cell 4
  have a5 : wa.cell? ⟨w.heap.size, 5, none⟩ = some (.int .i64 r3) := ka.cell 5
  have a6 : wa.cell? ⟨w.heap.size, 6, none⟩ = some (.int .u64 (m : Nat)) := ka.cell 6
  have hsa := ka.lt
  clear ka
  have hE := HE.out
  go_region_held3 (fun w' => w'.cell? ⟨w.heap.size, 0, none⟩ = some (.int .i64 c) ∧ w'.cell? ⟨w.heap.size, 1, none⟩ = some (.int .i64 f) ∧ w'.cell? ⟨w.heap.size, 2, none⟩ = some (.bool d) ∧ w'.cell? ⟨w.heap.size, 3, none⟩ = some (.int .i64 r1) ∧ w'.cell? ⟨w.heap.size, 4, none⟩ = some (.int .i64 r2) ∧ w'.cell? ⟨w.heap.size, 5, none⟩ = some (.int .i64 r3) ∧ w'.cell? ⟨w.heap.size, 6, none⟩ = some (.int .u64 (m : Nat))) (go_keep) (first | (go_at_call 29; refine (fixed_c c f r1 r2 r3 (m : Nat) d hf0 hf1 _).mono ?_; rintro e w5 ⟨rfl, g5⟩; have g35 := (Grew.refl wa).drew1.trans g5; have s0 : w5.cell? ⟨w.heap.size, 0, none⟩ = some (.int .i64 c) := (by rw [(gcell g35).1 _ _ hsa]; exact a0); have s1 : w5.cell? ⟨w.heap.size, 1, none⟩ = some (.int .i64 f) := (by rw [(gcell g35).1 _ _ hsa]; exact a1); have s2 : w5.cell? ⟨w.heap.size, 2, none⟩ = some (.bool d) := (by rw [(gcell g35).1 _ _ hsa]; exact a2); have s3 : w5.cell? ⟨w.heap.size, 3, none⟩ = some (.int .i64 r1) := (by rw [(gcell g35).1 _ _ hsa]; exact a3); have s4 : w5.cell? ⟨w.heap.size, 4, none⟩ = some (.int .i64 r2) := (by rw [(gcell g35).1 _ _ hsa]; exact a4); have s5 : w5.cell? ⟨w.heap.size, 5, none⟩ = some (.int .i64 r3) := (by rw [(gcell g35).1 _ _ hsa]; exact a5); have s6 : w5.cell? ⟨w.heap.size, 6, none⟩ = some (.int .u64 (m : Nat)) := (by rw [(gcell g35).1 _ _ hsa]; exact a6)) | (go_at_call 26; refine (shapeOf_c c f r1 r2 r3 (m : Nat) d _).mono ?_; rintro e w6 ⟨va, vn, rfl, hv6, g6⟩; have g36 := g35.trans g6; have t0 : w6.cell? ⟨w.heap.size, 0, none⟩ = some (.int .i64 c) := (by rw [(gcell g36).1 _ _ hsa]; exact a0); have t1 : w6.cell? ⟨w.heap.size, 1, none⟩ = some (.int .i64 f) := (by rw [(gcell g36).1 _ _ hsa]; exact a1); have t2 : w6.cell? ⟨w.heap.size, 2, none⟩ = some (.bool d) := (by rw [(gcell g36).1 _ _ hsa]; exact a2); have t3 : w6.cell? ⟨w.heap.size, 3, none⟩ = some (.int .i64 r1) := (by rw [(gcell g36).1 _ _ hsa]; exact a3); have t4 : w6.cell? ⟨w.heap.size, 4, none⟩ = some (.int .i64 r2) := (by rw [(gcell g36).1 _ _ hsa]; exact a4); have t5 : w6.cell? ⟨w.heap.size, 5, none⟩ = some (.int .i64 r3) := (by rw [(gcell g36).1 _ _ hsa]; exact a5); have t6 : w6.cell? ⟨w.heap.size, 6, none⟩ = some (.int .u64 (m : Nat)) := (by rw [(gcell g36).1 _ _ hsa]; exact a6)) | (go_at_call 30; refine (spread_c c f c f r1 r2 r3 d m hm q1 q2 q3 va vn _ _ hv6).mono ?_; rintro e w7 ⟨rfl, g7⟩; have g37 := g36.trans g7; have u0 : w7.cell? ⟨w.heap.size, 0, none⟩ = some (.int .i64 c) := (by rw [(gcell g37).1 _ _ hsa]; exact a0); have u1 : w7.cell? ⟨w.heap.size, 1, none⟩ = some (.int .i64 f) := (by rw [(gcell g37).1 _ _ hsa]; exact a1); have u2 : w7.cell? ⟨w.heap.size, 2, none⟩ = some (.bool d) := (by rw [(gcell g37).1 _ _ hsa]; exact a2); have u3 : w7.cell? ⟨w.heap.size, 3, none⟩ = some (.int .i64 r1) := (by rw [(gcell g37).1 _ _ hsa]; exact a3); have u4 : w7.cell? ⟨w.heap.size, 4, none⟩ = some (.int .i64 r2) := (by rw [(gcell g37).1 _ _ hsa]; exact a4); have u5 : w7.cell? ⟨w.heap.size, 5, none⟩ = some (.int .i64 r3) := (by rw [(gcell g37).1 _ _ hsa]; exact a5); have u6 : w7.cell? ⟨w.heap.size, 6, none⟩ = some (.int .u64 (m : Nat)) := (by rw [(gcell g37).1 _ _ hsa]; exact a6)))
  clear hE
  have hD : ∀ w : World, Calls Try.prog 11 #[.int .u32 (E : Nat)] w fun e w' => e = .returned (.tuple #[iV noI, .bool false]) ∧ Grew w w' := fun w => by
    have := HD.out w
    rwa [if_pos hno, hno] at this
  rw [wrap32c E hEl]
  go_wp2_with fail
  refine (hD _).mono ?_
  rintro e w8 ⟨rfl, g8⟩
  have g38 := g37.trans g8
  go_wp2_with fail
  go_returns
  exact ⟨rfl, (ga.trans g38).alloc _⟩
set_option maxHeartbeats 1000000 in
theorem enc_yes (c f r1 r2 r3 : Int) (d : Bool) (m : Nat) (hm : m < 18446744073709551616) (hf0 : -9223372036854775808 ≤ f) (hf1 : f ≤ 9223372036854775807) (q1 : -9223372036854775808 ≤ r1 ∧ r1 ≤ 9223372036854775807) (q2 : -9223372036854775808 ≤ r2 ∧ r2 ≤ 9223372036854775807) (q3 : -9223372036854775808 ≤ r3 ∧ r3 ≤ 9223372036854775807) (w : World) (hno : noB (kOf (encN c f d r1 r2 r3 m)) = false) (b : Bool) (hb : eqI (decI (encN c f d r1 r2 r3 m)) ⟨c, f, d, r1, r2, r3, (m : Nat)⟩ = b) :
    Calls Try.prog 14 #[.agg #[.int .i64 c, .int .i64 f, .bool d, .int .i64 r1, .int .i64 r2, .int .i64 r3, .int .u64 (m : Nat)]] w fun e w' => e = .returned (.tuple #[.int .u32 (if b then encN c f d r1 r2 r3 m else 0 : Nat), .bool b]) ∧ Grew w w' := by
  have hE := encN_or c f d r1 r2 r3 m
  have hEl := encN_lt c f d r1 r2 r3 m
  have HD := Lib.hid (@decode_c (encN c f d r1 r2 r3 m) hEl)
  generalize encN c f d r1 r2 r3 m = E at *
  have ka := Blk.new w #[.int .i64 c, .int .i64 f, .bool d, .int .i64 r1, .int .i64 r2, .int .i64 r3, .int .u64 (m : Nat)] 26 w.heap.size rfl
  have ga := (Grew.refl w).alloc (.cells #[.int .i64 c, .int .i64 f, .bool d, .int .i64 r1, .int .i64 r2, .int .i64 r3, .int .u64 (m : Nat)] 26)
  have HE := Lib.hid hE
  clear hE
  go_enter Try.func14, Try.ntmps14
  go_upto_region 1 with fail
  generalize w.alloc (.cells #[.int .i64 c, .int .i64 f, .bool d, .int .i64 r1, .int .i64 r2, .int .i64 r3, .int .u64 (m : Nat)] 26) = wa at *
  have a0 : wa.cell? ⟨w.heap.size, 0, none⟩ = some (.int .i64 c) := ka.cell 0
  have a1 : wa.cell? ⟨w.heap.size, 1, none⟩ = some (.int .i64 f) := ka.cell 1
  have a2 : wa.cell? ⟨w.heap.size, 2, none⟩ = some (.bool d) := ka.cell 2
  have a3 : wa.cell? ⟨w.heap.size, 3, none⟩ = some (.int .i64 r1) := ka.cell 3
  have a4 : wa.cell? ⟨w.heap.size, 4, none⟩ = some (.int .i64 r2) := ka.cell 4
  have a5 : wa.cell? ⟨w.heap.size, 5, none⟩ = some (.int .i64 r3) := ka.cell 5
  have a6 : wa.cell? ⟨w.heap.size, 6, none⟩ = some (.int .u64 (m : Nat)) := ka.cell 6
  have hsa := ka.lt
  clear ka
  have hE := HE.out
  go_region_held3 (fun w' => w'.cell? ⟨w.heap.size, 0, none⟩ = some (.int .i64 c) ∧ w'.cell? ⟨w.heap.size, 1, none⟩ = some (.int .i64 f) ∧ w'.cell? ⟨w.heap.size, 2, none⟩ = some (.bool d) ∧ w'.cell? ⟨w.heap.size, 3, none⟩ = some (.int .i64 r1) ∧ w'.cell? ⟨w.heap.size, 4, none⟩ = some (.int .i64 r2) ∧ w'.cell? ⟨w.heap.size, 5, none⟩ = some (.int .i64 r3) ∧ w'.cell? ⟨w.heap.size, 6, none⟩ = some (.int .u64 (m : Nat))) (go_keep) (first | (go_at_call 29; refine (fixed_c c f r1 r2 r3 (m : Nat) d hf0 hf1 _).mono ?_; rintro e w5 ⟨rfl, g5⟩; have g35 := (Grew.refl wa).drew1.trans g5; have s0 : w5.cell? ⟨w.heap.size, 0, none⟩ = some (.int .i64 c) := (by rw [(gcell g35).1 _ _ hsa]; exact a0); have s1 : w5.cell? ⟨w.heap.size, 1, none⟩ = some (.int .i64 f) := (by rw [(gcell g35).1 _ _ hsa]; exact a1); have s2 : w5.cell? ⟨w.heap.size, 2, none⟩ = some (.bool d) := (by rw [(gcell g35).1 _ _ hsa]; exact a2); have s3 : w5.cell? ⟨w.heap.size, 3, none⟩ = some (.int .i64 r1) := (by rw [(gcell g35).1 _ _ hsa]; exact a3); have s4 : w5.cell? ⟨w.heap.size, 4, none⟩ = some (.int .i64 r2) := (by rw [(gcell g35).1 _ _ hsa]; exact a4); have s5 : w5.cell? ⟨w.heap.size, 5, none⟩ = some (.int .i64 r3) := (by rw [(gcell g35).1 _ _ hsa]; exact a5); have s6 : w5.cell? ⟨w.heap.size, 6, none⟩ = some (.int .u64 (m : Nat)) := (by rw [(gcell g35).1 _ _ hsa]; exact a6)) | (go_at_call 26; refine (shapeOf_c c f r1 r2 r3 (m : Nat) d _).mono ?_; rintro e w6 ⟨va, vn, rfl, hv6, g6⟩; have g36 := g35.trans g6; have t0 : w6.cell? ⟨w.heap.size, 0, none⟩ = some (.int .i64 c) := (by rw [(gcell g36).1 _ _ hsa]; exact a0); have t1 : w6.cell? ⟨w.heap.size, 1, none⟩ = some (.int .i64 f) := (by rw [(gcell g36).1 _ _ hsa]; exact a1); have t2 : w6.cell? ⟨w.heap.size, 2, none⟩ = some (.bool d) := (by rw [(gcell g36).1 _ _ hsa]; exact a2); have t3 : w6.cell? ⟨w.heap.size, 3, none⟩ = some (.int .i64 r1) := (by rw [(gcell g36).1 _ _ hsa]; exact a3); have t4 : w6.cell? ⟨w.heap.size, 4, none⟩ = some (.int .i64 r2) := (by rw [(gcell g36).1 _ _ hsa]; exact a4); have t5 : w6.cell? ⟨w.heap.size, 5, none⟩ = some (.int .i64 r3) := (by rw [(gcell g36).1 _ _ hsa]; exact a5); have t6 : w6.cell? ⟨w.heap.size, 6, none⟩ = some (.int .u64 (m : Nat)) := (by rw [(gcell g36).1 _ _ hsa]; exact a6)) | (go_at_call 30; refine (spread_c c f c f r1 r2 r3 d m hm q1 q2 q3 va vn _ _ hv6).mono ?_; rintro e w7 ⟨rfl, g7⟩; have g37 := g36.trans g7; have u0 : w7.cell? ⟨w.heap.size, 0, none⟩ = some (.int .i64 c) := (by rw [(gcell g37).1 _ _ hsa]; exact a0); have u1 : w7.cell? ⟨w.heap.size, 1, none⟩ = some (.int .i64 f) := (by rw [(gcell g37).1 _ _ hsa]; exact a1); have u2 : w7.cell? ⟨w.heap.size, 2, none⟩ = some (.bool d) := (by rw [(gcell g37).1 _ _ hsa]; exact a2); have u3 : w7.cell? ⟨w.heap.size, 3, none⟩ = some (.int .i64 r1) := (by rw [(gcell g37).1 _ _ hsa]; exact a3); have u4 : w7.cell? ⟨w.heap.size, 4, none⟩ = some (.int .i64 r2) := (by rw [(gcell g37).1 _ _ hsa]; exact a4); have u5 : w7.cell? ⟨w.heap.size, 5, none⟩ = some (.int .i64 r3) := (by rw [(gcell g37).1 _ _ hsa]; exact a5); have u6 : w7.cell? ⟨w.heap.size, 6, none⟩ = some (.int .u64 (m : Nat)) := (by rw [(gcell g37).1 _ _ hsa]; exact a6)))
  clear hE
  have hD : ∀ w : World, Calls Try.prog 11 #[.int .u32 (E : Nat)] w fun e w' => e = .returned (.tuple #[iV (decI E), .bool true]) ∧ Grew w w' := fun w => by
    have := HD.out w
    rwa [if_neg (by rw [hno]; decide), hno] at this
  generalize decI E = j at *
  rw [wrap32c E hEl]
  go_wp2_with fail
  refine (hD _).mono ?_
  rintro e w8 ⟨rfl, g8⟩
  have g38 := g37.trans g8
  have kj := Blk.new w8 #[.int .i64 j.c, .int .i64 j.f, .bool j.d, .int .i64 j.r1, .int .i64 j.r2, .int .i64 j.r3, .int .u64 j.m] 26 w8.heap.size rfl
  have G9 := (ga.trans g38).alloc (.cells #[.int .i64 j.c, .int .i64 j.f, .bool j.d, .int .i64 j.r1, .int .i64 j.r2, .int .i64 j.r3, .int .u64 j.m] 26)
  have g39 := g38.alloc (.cells #[.int .i64 j.c, .int .i64 j.f, .bool j.d, .int .i64 j.r1, .int .i64 j.r2, .int .i64 j.r3, .int .u64 j.m] 26)
  go_upto_region 3 with fail
  generalize w8.alloc (.cells #[.int .i64 j.c, .int .i64 j.f, .bool j.d, .int .i64 j.r1, .int .i64 j.r2, .int .i64 j.r3, .int .u64 j.m] 26) = w9 at *
  generalize w8.heap.size = q at *
  have x0 : w9.cell? ⟨q, 0, none⟩ = some (.int .i64 j.c) := kj.cell 0
  have x1 : w9.cell? ⟨q, 1, none⟩ = some (.int .i64 j.f) := kj.cell 1
  have x2 : w9.cell? ⟨q, 2, none⟩ = some (.bool j.d) := kj.cell 2
  have x3 : w9.cell? ⟨q, 3, none⟩ = some (.int .i64 j.r1) := kj.cell 3
  have x4 : w9.cell? ⟨q, 4, none⟩ = some (.int .i64 j.r2) := kj.cell 4
  have x5 : w9.cell? ⟨q, 5, none⟩ = some (.int .i64 j.r3) := kj.cell 5
  have x6 : w9.cell? ⟨q, 6, none⟩ = some (.int .u64 j.m) := kj.cell 6
  have y0 : w9.cell? ⟨w.heap.size, 0, none⟩ = some (.int .i64 c) := (by rw [(gcell g39).1 _ _ hsa]; exact a0)
  have y1 : w9.cell? ⟨w.heap.size, 1, none⟩ = some (.int .i64 f) := (by rw [(gcell g39).1 _ _ hsa]; exact a1)
  have y2 : w9.cell? ⟨w.heap.size, 2, none⟩ = some (.bool d) := (by rw [(gcell g39).1 _ _ hsa]; exact a2)
  have y3 : w9.cell? ⟨w.heap.size, 3, none⟩ = some (.int .i64 r1) := (by rw [(gcell g39).1 _ _ hsa]; exact a3)
  have y4 : w9.cell? ⟨w.heap.size, 4, none⟩ = some (.int .i64 r2) := (by rw [(gcell g39).1 _ _ hsa]; exact a4)
  have y5 : w9.cell? ⟨w.heap.size, 5, none⟩ = some (.int .i64 r3) := (by rw [(gcell g39).1 _ _ hsa]; exact a5)
  have y6 : w9.cell? ⟨w.heap.size, 6, none⟩ = some (.int .u64 (m : Nat)) := (by rw [(gcell g39).1 _ _ hsa]; exact a6)
  have heq := fun w => ins_neq j ⟨c, f, d, r1, r2, r3, (m : Nat)⟩ b hb w
  cases b
  all_goals
    go_wp2_with fail
    go_returns
    exact ⟨rfl, G9⟩
/-- Does Encode answer the word that it tries? -/
def encB (c f : Int) (d : Bool) (r1 r2 r3 : Int) (m : Nat) : Bool := !noB (kOf (encN c f d r1 r2 r3 m)) && eqI (decI (encN c f d r1 r2 r3 m)) ⟨c, f, d, r1, r2, r3, (m : Nat)⟩
theorem encode_c (c f r1 r2 r3 : Int) (d : Bool) (m : Nat) (hm : m < 18446744073709551616) (hf0 : -9223372036854775808 ≤ f) (hf1 : f ≤ 9223372036854775807) (q1 : -9223372036854775808 ≤ r1 ∧ r1 ≤ 9223372036854775807) (q2 : -9223372036854775808 ≤ r2 ∧ r2 ≤ 9223372036854775807) (q3 : -9223372036854775808 ≤ r3 ∧ r3 ≤ 9223372036854775807) (w : World) :
    Calls Try.prog 14 #[.agg #[.int .i64 c, .int .i64 f, .bool d, .int .i64 r1, .int .i64 r2, .int .i64 r3, .int .u64 (m : Nat)]] w fun e w' => e = .returned (.tuple #[.int .u32 (if encB c f d r1 r2 r3 m then encN c f d r1 r2 r3 m else 0 : Nat), .bool (encB c f d r1 r2 r3 m)]) ∧ Grew w w' := by
  by_cases h : noB (kOf (encN c f d r1 r2 r3 m)) = true
  · have e : encB c f d r1 r2 r3 m = false := by unfold encB; rw [h]; rfl
    rw [e]
    exact enc_no c f r1 r2 r3 d m hm hf0 hf1 q1 q2 q3 w h
  · have h' : noB (kOf (encN c f d r1 r2 r3 m)) = false := by simpa using h
    have e : encB c f d r1 r2 r3 m = eqI (decI (encN c f d r1 r2 r3 m)) ⟨c, f, d, r1, r2, r3, (m : Nat)⟩ := by unfold encB; rw [h']; rfl
    rw [e]
    exact enc_yes c f r1 r2 r3 d m hm hf0 hf1 q1 q2 q3 w h' _ rfl
end Go.Proofs.Ytgekmhcekkmdhaa
