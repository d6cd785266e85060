/-
  Contracts of package decode: shapes.
-/
import Derived.Test.YtgekmhcekkmdhaaDecA
import Derived.Test.YtgekmhcekkmdhaaDecM
import Derived.Great.BuildSlice
set_option linter.unusedVariables false
set_option linter.unusedSimpArgs false
namespace Go.Proofs.Ytgekmhcekkmdhaa
open Go.RowKit

/-- A row of runs in memory, in a block from B on. -/
def RunsIn (B : Nat) (w : World) (v : Value) (rs : List Run) : Prop :=
  (rs = [] ∧ v = .slice none 0 0) ∨
  rs ≠ [] ∧ ∃ b, v = .slice (some ⟨b, 0, none⟩) rs.length rs.length ∧ B ≤ b ∧ b < w.heap.size ∧ ∀ k, k < rs.length →
    w.cell? ⟨b, k * 3, none⟩ = some (.int .i64 (rs.getD k default).hi) ∧ w.cell? ⟨b, k * 3 + 1, none⟩ = some (.int .i64 (rs.getD k default).lo) ∧ w.cell? ⟨b, k * 3 + 2, none⟩ = some (.int .i64 (rs.getD k default).pl)
theorem RunsIn.move {B C : Nat} {w w' : World} {v : Value} {rs : List Run} (h : RunsIn B w v rs) (hC : C ≤ B) (hs : w.heap.size ≤ w'.heap.size) (hb : ∀ b o, B ≤ b → b < w.heap.size → w'.cell? ⟨b, o, none⟩ = w.cell? ⟨b, o, none⟩) : RunsIn C w' v rs := by
  rcases h with h | ⟨hr, b, rfl, h0, h1, h⟩
  · exact .inl h
  · refine .inr ⟨hr, b, rfl, by omega, by omega, fun k hk => ?_⟩
    rw [hb _ _ h0 h1, hb _ _ h0 h1, hb _ _ h0 h1]
    exact h k hk
theorem RunsIn.grew {B : Nat} {w w' : World} {v : Value} {rs : List Run} (h : RunsIn B w v rs) (g : Grew w w') : RunsIn B w' v rs :=
  h.move (Nat.le_refl _) g.size fun b o _ h1 => (gcell g).1 b o h1
theorem RunsIn.setCell {B C : Nat} {w : World} {v : Value} {rs : List Run} (h : RunsIn B w v rs) {b o : Nat} (hb : b < B) (hC : C ≤ B) (u : Value) : RunsIn C (w.setCell ⟨b, o, none⟩ u) v rs :=
  h.move hC (by simp) fun c o' h0 _ => by
    have hne : c ≠ b := by omega
    have e : (w.setCell ⟨b, o, none⟩ u).heap[c]? = w.heap[c]? := Below.heap_setCell w ⟨b, o, none⟩ u c hne
    simp only [World.cell?, e]
/-- All cells of a block that has just been made. -/
theorem RunsIn.of {w : World} {b : Nat} {T : TypeId} {rs : List Run} (hrs : rs ≠ []) (B : Nat) (hB : B ≤ b) (h : w.heap[b]? = some (.cells (rs.flatMap fun r => [.int .i64 r.hi, .int .i64 r.lo, .int .i64 r.pl]).toArray T (0, 0))) : RunsIn B w (.slice (some ⟨b, 0, none⟩) rs.length rs.length) rs := by
  have hb : b < w.heap.size := by
    rcases Nat.lt_or_ge b w.heap.size with h' | h'
    · exact h'
    · simp [Array.getElem?_eq_none h'] at h
  have key : ∀ (rs : List Run) (k : Nat), k < rs.length → (rs.flatMap fun r => [Value.int .i64 r.hi, .int .i64 r.lo, .int .i64 r.pl])[3 * k]? = some (.int .i64 (rs.getD k default).hi) ∧ (rs.flatMap fun r => [Value.int .i64 r.hi, .int .i64 r.lo, .int .i64 r.pl])[3 * k + 1]? = some (.int .i64 (rs.getD k default).lo) ∧ (rs.flatMap fun r => [Value.int .i64 r.hi, .int .i64 r.lo, .int .i64 r.pl])[3 * k + 2]? = some (.int .i64 (rs.getD k default).pl) := by
    intro rs
    induction rs with
    | nil => intro k hk; simp at hk
    | cons r rs ih =>
      intro k hk
      cases k with
      | zero => exact ⟨rfl, rfl, rfl⟩
      | succ k =>
        have := ih k (by simpa using hk)
        exact this
  refine .inr ⟨hrs, b, rfl, hB, hb, fun k hk => ?_⟩
  obtain ⟨h1, h2, h3⟩ := key rs k hk
  rw [Nat.mul_comm k 3]
  refine ⟨?_, ?_, ?_⟩ <;> simp only [World.cell?, h] <;> simpa using (by assumption)

theorem last_block (w : World) (o : Obj) (n : Nat) (h : n = w.heap.size) : (w.alloc o).heap[n]? = some o := by
  subst h
  show (w.heap.push o)[w.heap.size]? = some o
  simp
abbrev sV (s : Shp) (v : Value) : Value := .agg #[.bool s.rd, .bool s.rs1, .bool s.rs2, v, .int .i64 s.wide]
def ShapeOut (w : World) (s : Shp) (e : Ending) (w' : World) : Prop := ∃ a n, e = .returned (sV s (.slice a n n)) ∧ RunsIn w.heap.size w' (.slice a n n) s.runs ∧ Grew w w'

theorem twelve_c (n : Int) (w : World) :
    Calls Try.prog 47 #[.int .i64 n] w fun e w' => e = .returned (.agg #[.bool true, .bool true, .bool false, .slice (some ⟨w.heap.size + 1, 0, none⟩) 1 1, .int .i64 n]) ∧
      w' = (w.alloc (.cells #[.bool true, .bool true, .bool false, .slice (some ⟨w.heap.size + 1, 0, none⟩) 1 1, .int .i64 n] 49)).alloc (.cells #[.int .i64 31, .int .i64 20, .int .i64 0] 71) := by
  go_enter Try.func47, Try.ntmps47
  go_wp2_with fail
  go_returns
  exact ⟨rfl, rfl⟩
set_option maxHeartbeats 400000 in
theorem imm_1 (c f r1 r2 r3 m : Int) (d : Bool) (hf : f = 1) (w : World) :
    Calls Try.prog 48 #[.agg #[.int .i64 c, .int .i64 f, .bool d, .int .i64 r1, .int .i64 r2, .int .i64 r3, .int .u64 m]] w (ShapeOut w (immShp f)) := by
  have r : immShp f = ⟨true, true, false, [⟨25, 20, 0⟩], 64⟩ := by simp [immShp, hf]
  rw [r]
  clear r
  subst hf
  go_enter Try.func48, Try.ntmps48
  go_wp2_with fail
  go_returns
  exact ⟨_, _, rfl, RunsIn.of (rs := [⟨25, 20, 0⟩]) (by simp) _ (by omega) (last_block _ _ _ (by simp)), (by repeat (first | with_reducible exact Grew.refl _ | with_reducible refine Grew.alloc ?_ _))⟩
set_option maxHeartbeats 400000 in
theorem imm_5 (c f r1 r2 r3 m : Int) (d : Bool) (hf : f = 5) (w : World) :
    Calls Try.prog 48 #[.agg #[.int .i64 c, .int .i64 f, .bool d, .int .i64 r1, .int .i64 r2, .int .i64 r3, .int .u64 m]] w (ShapeOut w (immShp f)) := by
  have r : immShp f = ⟨true, true, false, [⟨25, 20, 0⟩], 64⟩ := by simp [immShp, hf]
  rw [r]
  clear r
  subst hf
  go_enter Try.func48, Try.ntmps48
  go_wp2_with fail
  go_returns
  exact ⟨_, _, rfl, RunsIn.of (rs := [⟨25, 20, 0⟩]) (by simp) _ (by omega) (last_block _ _ _ (by simp)), (by repeat (first | with_reducible exact Grew.refl _ | with_reducible refine Grew.alloc ?_ _))⟩
set_option maxHeartbeats 400000 in
theorem imm_13 (c f r1 r2 r3 m : Int) (d : Bool) (hf : f = 13) (w : World) :
    Calls Try.prog 48 #[.agg #[.int .i64 c, .int .i64 f, .bool d, .int .i64 r1, .int .i64 r2, .int .i64 r3, .int .u64 m]] w (ShapeOut w (immShp f)) := by
  have r : immShp f = ⟨true, true, false, [⟨25, 20, 0⟩], 64⟩ := by simp [immShp, hf]
  rw [r]
  clear r
  subst hf
  go_enter Try.func48, Try.ntmps48
  go_wp2_with fail
  go_returns
  exact ⟨_, _, rfl, RunsIn.of (rs := [⟨25, 20, 0⟩]) (by simp) _ (by omega) (last_block _ _ _ (by simp)), (by repeat (first | with_reducible exact Grew.refl _ | with_reducible refine Grew.alloc ?_ _))⟩
set_option maxHeartbeats 400000 in
theorem imm_o (c f r1 r2 r3 m : Int) (d : Bool) (h1 : ¬ f = 1) (h5 : ¬ f = 5) (h13 : ¬ f = 13) (w : World) :
    Calls Try.prog 48 #[.agg #[.int .i64 c, .int .i64 f, .bool d, .int .i64 r1, .int .i64 r2, .int .i64 r3, .int .u64 m]] w (ShapeOut w (immShp f)) := by
  have r : immShp f = ⟨true, true, false, [⟨31, 20, 0⟩], 12⟩ := by simp [immShp, tw, h1, h5, h13]
  rw [r]
  clear r
  go_enter Try.func48, Try.ntmps48
  go_wp2_with fail
  refine (twelve_c _ _).mono ?_
  rintro e w1 ⟨rfl, rfl⟩
  go_wp2_with fail
  go_returns
  exact ⟨_, _, rfl, RunsIn.of (rs := [⟨31, 20, 0⟩]) (by simp) _ (by omega) (last_block _ _ _ (by simp)), (by repeat (first | with_reducible exact Grew.refl _ | with_reducible refine Grew.alloc ?_ _))⟩
set_option maxHeartbeats 400000 in
theorem immShape_c (c f r1 r2 r3 m : Int) (d : Bool) (w : World) :
    Calls Try.prog 48 #[.agg #[.int .i64 c, .int .i64 f, .bool d, .int .i64 r1, .int .i64 r2, .int .i64 r3, .int .u64 m]] w (ShapeOut w (immShp f)) := by
  by_cases h1 : f = 1
  · exact imm_1 c f r1 r2 r3 m d h1 w
  · by_cases h5 : f = 5
    · exact imm_5 c f r1 r2 r3 m d h5 w
    · by_cases h13 : f = 13
      · exact imm_13 c f r1 r2 r3 m d h13 w
      · exact imm_o c f r1 r2 r3 m d h1 h5 h13 w
set_option maxHeartbeats 400000 in
theorem shape_1 (c f r1 r2 r3 m : Int) (d : Bool) (hc : c = 1) (w : World) :
    Calls Try.prog 26 #[.agg #[.int .i64 c, .int .i64 f, .bool d, .int .i64 r1, .int .i64 r2, .int .i64 r3, .int .u64 m]] w (ShapeOut w (shp c f)) := by
  have r : shp c f = ⟨true, false, false, [⟨31, 12, 12⟩], 32⟩ := by simp [shp, tw, hc]
  rw [r]
  clear r
  subst hc
  go_enter Try.func26, Try.ntmps26
  go_wp2_with fail
  go_returns
  exact ⟨_, _, rfl, RunsIn.of (rs := [⟨31, 12, 12⟩]) (by simp) _ (by omega) (last_block _ _ _ (by simp)), (by repeat (first | with_reducible exact Grew.refl _ | with_reducible refine Grew.alloc ?_ _))⟩
set_option maxHeartbeats 400000 in
theorem shape_2 (c f r1 r2 r3 m : Int) (d : Bool) (hc : c = 2) (w : World) :
    Calls Try.prog 26 #[.agg #[.int .i64 c, .int .i64 f, .bool d, .int .i64 r1, .int .i64 r2, .int .i64 r3, .int .u64 m]] w (ShapeOut w (shp c f)) := by
  have r : shp c f = ⟨true, false, false, [⟨31, 12, 12⟩], 32⟩ := by simp [shp, tw, hc]
  rw [r]
  clear r
  subst hc
  go_enter Try.func26, Try.ntmps26
  go_wp2_with fail
  go_returns
  exact ⟨_, _, rfl, RunsIn.of (rs := [⟨31, 12, 12⟩]) (by simp) _ (by omega) (last_block _ _ _ (by simp)), (by repeat (first | with_reducible exact Grew.refl _ | with_reducible refine Grew.alloc ?_ _))⟩
set_option maxHeartbeats 400000 in
theorem shape_3 (c f r1 r2 r3 m : Int) (d : Bool) (hc : c = 3) (w : World) :
    Calls Try.prog 26 #[.agg #[.int .i64 c, .int .i64 f, .bool d, .int .i64 r1, .int .i64 r2, .int .i64 r3, .int .u64 m]] w (ShapeOut w (shp c f)) := by
  have r : shp c f = ⟨true, false, false, [⟨31, 31, 20⟩, ⟨30, 21, 1⟩, ⟨20, 20, 11⟩, ⟨19, 12, 12⟩], 21⟩ := by simp [shp, tw, hc]
  rw [r]
  clear r
  subst hc
  go_enter Try.func26, Try.ntmps26
  go_wp2_with fail
  go_returns
  exact ⟨_, _, rfl, RunsIn.of (rs := [⟨31, 31, 20⟩, ⟨30, 21, 1⟩, ⟨20, 20, 11⟩, ⟨19, 12, 12⟩]) (by simp) _ (by omega) (last_block _ _ _ (by simp)), (by repeat (first | with_reducible exact Grew.refl _ | with_reducible refine Grew.alloc ?_ _))⟩
set_option maxHeartbeats 400000 in
theorem shape_5 (c f r1 r2 r3 m : Int) (d : Bool) (hc : c = 5) (w : World) :
    Calls Try.prog 26 #[.agg #[.int .i64 c, .int .i64 f, .bool d, .int .i64 r1, .int .i64 r2, .int .i64 r3, .int .u64 m]] w (ShapeOut w (shp c f)) := by
  have r : shp c f = ⟨false, true, true, [⟨31, 31, 12⟩, ⟨30, 25, 5⟩, ⟨11, 8, 1⟩, ⟨7, 7, 11⟩], 13⟩ := by simp [shp, tw, hc]
  rw [r]
  clear r
  subst hc
  go_enter Try.func26, Try.ntmps26
  go_wp2_with fail
  go_returns
  exact ⟨_, _, rfl, RunsIn.of (rs := [⟨31, 31, 12⟩, ⟨30, 25, 5⟩, ⟨11, 8, 1⟩, ⟨7, 7, 11⟩]) (by simp) _ (by omega) (last_block _ _ _ (by simp)), (by repeat (first | with_reducible exact Grew.refl _ | with_reducible refine Grew.alloc ?_ _))⟩
set_option maxHeartbeats 400000 in
theorem shape_7 (c f r1 r2 r3 m : Int) (d : Bool) (hc : c = 7) (w : World) :
    Calls Try.prog 26 #[.agg #[.int .i64 c, .int .i64 f, .bool d, .int .i64 r1, .int .i64 r2, .int .i64 r3, .int .u64 m]] w (ShapeOut w (shp c f)) := by
  have r : shp c f = ⟨false, true, true, [⟨31, 25, 5⟩, ⟨11, 7, 0⟩], 12⟩ := by simp [shp, tw, hc]
  rw [r]
  clear r
  subst hc
  go_enter Try.func26, Try.ntmps26
  go_wp2_with fail
  go_returns
  exact ⟨_, _, rfl, RunsIn.of (rs := [⟨31, 25, 5⟩, ⟨11, 7, 0⟩]) (by simp) _ (by omega) (last_block _ _ _ (by simp)), (by repeat (first | with_reducible exact Grew.refl _ | with_reducible refine Grew.alloc ?_ _))⟩
set_option maxHeartbeats 400000 in
theorem shape_4 (c f r1 r2 r3 m : Int) (d : Bool) (hc : c = 4) (w : World) :
    Calls Try.prog 26 #[.agg #[.int .i64 c, .int .i64 f, .bool d, .int .i64 r1, .int .i64 r2, .int .i64 r3, .int .u64 m]] w (ShapeOut w (shp c f)) := by
  have r : shp c f = ⟨true, true, false, [⟨31, 20, 0⟩], 12⟩ := by simp [shp, tw, hc]
  rw [r]
  clear r
  subst hc
  go_enter Try.func26, Try.ntmps26
  go_wp2_with fail
  refine (twelve_c _ _).mono ?_
  rintro e w1 ⟨rfl, rfl⟩
  go_wp2_with fail
  go_returns
  exact ⟨_, _, rfl, RunsIn.of (rs := [⟨31, 20, 0⟩]) (by simp) _ (by omega) (last_block _ _ _ (by simp)), (by repeat (first | with_reducible exact Grew.refl _ | with_reducible refine Grew.alloc ?_ _))⟩
set_option maxHeartbeats 400000 in
theorem shape_6 (c f r1 r2 r3 m : Int) (d : Bool) (hc : c = 6) (w : World) :
    Calls Try.prog 26 #[.agg #[.int .i64 c, .int .i64 f, .bool d, .int .i64 r1, .int .i64 r2, .int .i64 r3, .int .u64 m]] w (ShapeOut w (shp c f)) := by
  have r : shp c f = ⟨true, true, false, [⟨31, 20, 0⟩], 12⟩ := by simp [shp, tw, hc]
  rw [r]
  clear r
  subst hc
  go_enter Try.func26, Try.ntmps26
  go_wp2_with fail
  refine (twelve_c _ _).mono ?_
  rintro e w1 ⟨rfl, rfl⟩
  go_wp2_with fail
  go_returns
  exact ⟨_, _, rfl, RunsIn.of (rs := [⟨31, 20, 0⟩]) (by simp) _ (by omega) (last_block _ _ _ (by simp)), (by repeat (first | with_reducible exact Grew.refl _ | with_reducible refine Grew.alloc ?_ _))⟩
set_option maxHeartbeats 400000 in
theorem shape_12 (c f r1 r2 r3 m : Int) (d : Bool) (hc : c = 12) (w : World) :
    Calls Try.prog 26 #[.agg #[.int .i64 c, .int .i64 f, .bool d, .int .i64 r1, .int .i64 r2, .int .i64 r3, .int .u64 m]] w (ShapeOut w (shp c f)) := by
  have r : shp c f = ⟨true, true, false, [⟨31, 20, 0⟩], 64⟩ := by simp [shp, tw, hc]
  rw [r]
  clear r
  subst hc
  go_enter Try.func26, Try.ntmps26
  go_wp2_with fail
  refine (twelve_c _ _).mono ?_
  rintro e w1 ⟨rfl, rfl⟩
  go_wp2_with fail
  go_returns
  exact ⟨_, _, rfl, RunsIn.of (rs := [⟨31, 20, 0⟩]) (by simp) _ (by omega) (last_block _ _ _ (by simp)), (by repeat (first | with_reducible exact Grew.refl _ | with_reducible refine Grew.alloc ?_ _))⟩
set_option maxHeartbeats 400000 in
theorem shape_9 (c f r1 r2 r3 m : Int) (d : Bool) (hc : c = 9) (w : World) :
    Calls Try.prog 26 #[.agg #[.int .i64 c, .int .i64 f, .bool d, .int .i64 r1, .int .i64 r2, .int .i64 r3, .int .u64 m]] w (ShapeOut w (shp c f)) := by
  have r : shp c f = ⟨true, true, true, [], 0⟩ := by simp [shp, tw, hc]
  rw [r]
  clear r
  subst hc
  go_enter Try.func26, Try.ntmps26
  go_wp2_with fail
  go_returns
  exact ⟨_, _, rfl, .inl ⟨rfl, rfl⟩, (by repeat (first | with_reducible exact Grew.refl _ | with_reducible refine Grew.alloc ?_ _))⟩
set_option maxHeartbeats 400000 in
theorem shape_13 (c f r1 r2 r3 m : Int) (d : Bool) (hc : c = 13) (w : World) :
    Calls Try.prog 26 #[.agg #[.int .i64 c, .int .i64 f, .bool d, .int .i64 r1, .int .i64 r2, .int .i64 r3, .int .u64 m]] w (ShapeOut w (shp c f)) := by
  have r : shp c f = ⟨true, true, true, [], 0⟩ := by simp [shp, tw, hc]
  rw [r]
  clear r
  subst hc
  go_enter Try.func26, Try.ntmps26
  go_wp2_with fail
  go_returns
  exact ⟨_, _, rfl, .inl ⟨rfl, rfl⟩, (by repeat (first | with_reducible exact Grew.refl _ | with_reducible refine Grew.alloc ?_ _))⟩
set_option maxHeartbeats 400000 in
theorem shape_11 (c f r1 r2 r3 m : Int) (d : Bool) (hc : c = 11) (w : World) :
    Calls Try.prog 26 #[.agg #[.int .i64 c, .int .i64 f, .bool d, .int .i64 r1, .int .i64 r2, .int .i64 r3, .int .u64 m]] w (ShapeOut w (shp c f)) := by
  have r : shp c f = ⟨false, f == 5, f == 5, [], 0⟩ := by simp [shp, tw, hc]
  rw [r]
  clear r
  subst hc
  go_enter Try.func26, Try.ntmps26
  go_wp2_with fail
  go_returns
  exact ⟨_, _, rfl, .inl ⟨rfl, rfl⟩, (by repeat (first | with_reducible exact Grew.refl _ | with_reducible refine Grew.alloc ?_ _))⟩
set_option maxHeartbeats 400000 in
theorem shape_8 (c f r1 r2 r3 m : Int) (d : Bool) (hc : c = 8) (w : World) :
    Calls Try.prog 26 #[.agg #[.int .i64 c, .int .i64 f, .bool d, .int .i64 r1, .int .i64 r2, .int .i64 r3, .int .u64 m]] w (ShapeOut w (shp c f)) := by
  have r : shp c f = immShp f := by simp [shp, hc]
  rw [r]
  clear r
  subst hc
  go_enter Try.func26, Try.ntmps26
  go_wp2_with fail
  refine (immShape_c 8 f r1 r2 r3 m d _).mono ?_
  rintro e w1 ⟨va, vn, rfl, hv, g1⟩
  obtain ⟨hc1, hf1⟩ := gcell g1
  have hs3 : w.heap.size + 1 < ((w.alloc (.cells #[.int .i64 8, .int .i64 f, .bool d, .int .i64 r1, .int .i64 r2, .int .i64 r3, .int .u64 m] 26)).alloc (.cells #[.bool false, .bool false, .bool false, .slice none 0 0, .int .i64 0] 49)).heap.size := by simp
  have hs4 : w.heap.size ≤ ((w.alloc (.cells #[.int .i64 8, .int .i64 f, .bool d, .int .i64 r1, .int .i64 r2, .int .i64 r3, .int .u64 m] 26)).alloc (.cells #[.bool false, .bool false, .bool false, .slice none 0 0, .int .i64 0] 49)).heap.size := by simp; omega
  have hs1 := g1.size
  simp at hs1
  have hs2 : w.heap.size + 1 < w1.heap.size := by omega
  have HS3 := Lib.hid hs3
  have HS4 := Lib.hid hs4
  clear hs3 hs4
  go_wp2_with fail
  have hs3 := HS3.out
  have hs4 := HS4.out
  refine bodyPost_ret (v := sV (immShp f) (.slice va vn vn)) (by simp [results, Try.results26, go_sem, hc1, hs2]) rfl ?_
  exact ⟨_, _, rfl, ((((hv.setCell hs3 (Nat.le_refl _) _).setCell hs3 (Nat.le_refl _) _).setCell hs3 (Nat.le_refl _) _).setCell hs3 (Nat.le_refl _) _).setCell hs3 hs4 _, ((((((((Grew.refl w).alloc _).alloc _).trans g1).setCell (Nat.le_succ _) _).setCell (Nat.le_succ _) _).setCell (Nat.le_succ _) _).setCell (Nat.le_succ _) _).setCell (Nat.le_succ _) _⟩
set_option maxHeartbeats 400000 in
theorem shape_o (c f r1 r2 r3 m : Int) (d : Bool) (h1 : ¬ c = 1) (h2 : ¬ c = 2) (h3 : ¬ c = 3) (h5 : ¬ c = 5) (h7 : ¬ c = 7) (h4 : ¬ c = 4) (h6 : ¬ c = 6) (h12 : ¬ c = 12) (h9 : ¬ c = 9) (h13 : ¬ c = 13) (h11 : ¬ c = 11) (h8 : ¬ c = 8) (w : World) :
    Calls Try.prog 26 #[.agg #[.int .i64 c, .int .i64 f, .bool d, .int .i64 r1, .int .i64 r2, .int .i64 r3, .int .u64 m]] w (ShapeOut w (shp c f)) := by
  have r : shp c f = ⟨false, false, false, [], 0⟩ := by simp [shp, h1, h2, h3, h5, h7, h4, h6, h12, h9, h13, h11, h8]
  rw [r]
  clear r
  go_enter Try.func26, Try.ntmps26
  go_wp2_with fail
  go_returns
  exact ⟨_, _, rfl, .inl ⟨rfl, rfl⟩, (by repeat (first | with_reducible exact Grew.refl _ | with_reducible refine Grew.alloc ?_ _))⟩
set_option maxHeartbeats 400000 in
theorem shapeOf_c (c f r1 r2 r3 m : Int) (d : Bool) (w : World) :
    Calls Try.prog 26 #[.agg #[.int .i64 c, .int .i64 f, .bool d, .int .i64 r1, .int .i64 r2, .int .i64 r3, .int .u64 m]] w (ShapeOut w (shp c f)) := by
  by_cases h1 : c = 1
  · exact shape_1 c f r1 r2 r3 m d h1 w
  · skip
    by_cases h2 : c = 2
    · exact shape_2 c f r1 r2 r3 m d h2 w
    · skip
      by_cases h3 : c = 3
      · exact shape_3 c f r1 r2 r3 m d h3 w
      · skip
        by_cases h5 : c = 5
        · exact shape_5 c f r1 r2 r3 m d h5 w
        · skip
          by_cases h7 : c = 7
          · exact shape_7 c f r1 r2 r3 m d h7 w
          · skip
            by_cases h4 : c = 4
            · exact shape_4 c f r1 r2 r3 m d h4 w
            · skip
              by_cases h6 : c = 6
              · exact shape_6 c f r1 r2 r3 m d h6 w
              · skip
                by_cases h12 : c = 12
                · exact shape_12 c f r1 r2 r3 m d h12 w
                · skip
                  by_cases h9 : c = 9
                  · exact shape_9 c f r1 r2 r3 m d h9 w
                  · skip
                    by_cases h13 : c = 13
                    · exact shape_13 c f r1 r2 r3 m d h13 w
                    · skip
                      by_cases h11 : c = 11
                      · exact shape_11 c f r1 r2 r3 m d h11 w
                      · skip
                        by_cases h8 : c = 8
                        · exact shape_8 c f r1 r2 r3 m d h8 w
                        · skip
                          exact shape_o c f r1 r2 r3 m d h1 h2 h3 h5 h7 h4 h6 h12 h9 h13 h11 h8 w
end Go.Proofs.Ytgekmhcekkmdhaa
