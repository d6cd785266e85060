/-
  Registers with one changed; loaded and stored whole; package csr's with.
-/
import Derived.Test.YtpehfmchcjanhaaDoorCsrB
set_option linter.unusedVariables false
set_option linter.unusedSimpArgs false
namespace Go.Proofs.YtpehfmchcjanhaaDoor
open Go.RowKit

/-- c, but v in place i. -/
def upd (c : Nat → Int) (i : Nat) (v : Int) : Nat → Int := fun j => if j = i then v else c j
theorem upd_ok {c : Nat → Int} (h : csOk c) (i : Nat) (v : Int) (h0 : 0 ≤ v) (h1 : v < 18446744073709551616) : csOk (upd c i v) := fun j => by
  unfold upd
  split
  · exact ⟨h0, h1⟩
  · exact h j
theorem csA_upd (c : Nat → Int) (i : Nat) (v : Int) (hi : i < 17) : (csA c).setIfInBounds i (.int .u64 v) = csA (upd c i v) := by
  obtain rfl | rfl | rfl | rfl | rfl | rfl | rfl | rfl | rfl | rfl | rfl | rfl | rfl | rfl | rfl | rfl | rfl : i = 0 ∨ i = 1 ∨ i = 2 ∨ i = 3 ∨ i = 4 ∨ i = 5 ∨ i = 6 ∨ i = 7 ∨ i = 8 ∨ i = 9 ∨ i = 10 ∨ i = 11 ∨ i = 12 ∨ i = 13 ∨ i = 14 ∨ i = 15 ∨ i = 16 := by omega
  all_goals simp [csA, upd]

@[simp] theorem csU_0 (c : Nat → Int) (v : Int) : (csA c).setIfInBounds 0 (.int .u64 v) = csA (upd c 0 v) := csA_upd c 0 v (by decide)
@[simp] theorem csU_1 (c : Nat → Int) (v : Int) : (csA c).setIfInBounds 1 (.int .u64 v) = csA (upd c 1 v) := csA_upd c 1 v (by decide)
@[simp] theorem csU_2 (c : Nat → Int) (v : Int) : (csA c).setIfInBounds 2 (.int .u64 v) = csA (upd c 2 v) := csA_upd c 2 v (by decide)
@[simp] theorem csU_3 (c : Nat → Int) (v : Int) : (csA c).setIfInBounds 3 (.int .u64 v) = csA (upd c 3 v) := csA_upd c 3 v (by decide)
@[simp] theorem csU_4 (c : Nat → Int) (v : Int) : (csA c).setIfInBounds 4 (.int .u64 v) = csA (upd c 4 v) := csA_upd c 4 v (by decide)
@[simp] theorem csU_5 (c : Nat → Int) (v : Int) : (csA c).setIfInBounds 5 (.int .u64 v) = csA (upd c 5 v) := csA_upd c 5 v (by decide)
@[simp] theorem csU_6 (c : Nat → Int) (v : Int) : (csA c).setIfInBounds 6 (.int .u64 v) = csA (upd c 6 v) := csA_upd c 6 v (by decide)
@[simp] theorem csU_7 (c : Nat → Int) (v : Int) : (csA c).setIfInBounds 7 (.int .u64 v) = csA (upd c 7 v) := csA_upd c 7 v (by decide)
@[simp] theorem csU_8 (c : Nat → Int) (v : Int) : (csA c).setIfInBounds 8 (.int .u64 v) = csA (upd c 8 v) := csA_upd c 8 v (by decide)
@[simp] theorem csU_9 (c : Nat → Int) (v : Int) : (csA c).setIfInBounds 9 (.int .u64 v) = csA (upd c 9 v) := csA_upd c 9 v (by decide)
@[simp] theorem csU_10 (c : Nat → Int) (v : Int) : (csA c).setIfInBounds 10 (.int .u64 v) = csA (upd c 10 v) := csA_upd c 10 v (by decide)
@[simp] theorem csU_11 (c : Nat → Int) (v : Int) : (csA c).setIfInBounds 11 (.int .u64 v) = csA (upd c 11 v) := csA_upd c 11 v (by decide)
@[simp] theorem csU_12 (c : Nat → Int) (v : Int) : (csA c).setIfInBounds 12 (.int .u64 v) = csA (upd c 12 v) := csA_upd c 12 v (by decide)
@[simp] theorem csU_13 (c : Nat → Int) (v : Int) : (csA c).setIfInBounds 13 (.int .u64 v) = csA (upd c 13 v) := csA_upd c 13 v (by decide)
@[simp] theorem csU_14 (c : Nat → Int) (v : Int) : (csA c).setIfInBounds 14 (.int .u64 v) = csA (upd c 14 v) := csA_upd c 14 v (by decide)
@[simp] theorem csU_15 (c : Nat → Int) (v : Int) : (csA c).setIfInBounds 15 (.int .u64 v) = csA (upd c 15 v) := csA_upd c 15 v (by decide)
@[simp] theorem csU_16 (c : Nat → Int) (v : Int) : (csA c).setIfInBounds 16 (.int .u64 v) = csA (upd c 16 v) := csA_upd c 16 v (by decide)

theorem ld_cs {ops : Array Oper} {rest : List Oper} {o : Oper} {a : Act} {w : World} {Q : Exit → Act → World → Prop} (hgd : o.guard = none) (x : Operand) (ho : o.op = .load 24 x) (d : Option Tmp) (hd : o.dst = d) {g : Nat} {c : Nat → Int} {T : TypeId}
    (k : Blk w g (csA c) T) (hx : a.eval x = .pointer (some ⟨g, 0, none⟩)) (h : wpList Tryd.prog ops Q rest (a.put d (csV c)) w) : wpList Tryd.prog ops Q (o :: rest) a w := by
  subst hd
  exact wpList_load_row hgd _ x ho g hx T (csA c) (0, 0) _ k Tryd.underlying24 rfl csInfo h
theorem st_cs {ops : Array Oper} {rest : List Oper} {o : Oper} {a : Act} {w : World} {Q : Exit → Act → World → Prop} (hgd : o.guard = none) (x y : Operand) (ho : o.op = .store 24 x y) (hd : o.dst = none) {g : Nat} (c : Nat → Int) {old : Array Value} {T : TypeId}
    (k : Blk w g old T) (hold : old.size = 17) (hx : a.eval x = .pointer (some ⟨g, 0, none⟩)) (hy : a.eval y = csV c) (h : wpList Tryd.prog ops Q rest a (w.setRow g (csA c))) : wpList Tryd.prog ops Q (o :: rest) a w :=
  wpList_store_rowTo hgd _ x y ho hd g (csA c) hx hy T old k csInfo hold (csA_one c) h
theorem var_cs {w : World} {g : Nat} {c : Nat → Int} {T : TypeId} (k : Blk w g (csA c) T) : (loadVar 24 ⟨g, 0, none⟩).run Tryd.prog w = .ok (csV c) w :=
  run_loadVar_row w g T _ (csA c) (0, 0) _ k Tryd.underlying24 rfl csInfo

theorem ld_st {ops : Array Oper} {rest : List Oper} {o : Oper} {a : Act} {w : World} {Q : Exit → Act → World → Prop} (hgd : o.guard = none) (x : Operand) (ho : o.op = .load 36 x) (d : Option Tmp) (hd : o.dst = d) {g : Nat} {c : Nat → Int} {T : TypeId}
    (k : Blk w g (csA c) T) (hx : a.eval x = .pointer (some ⟨g, 0, none⟩)) (h : wpList Tryd.prog ops Q rest (a.put d (csV c)) w) : wpList Tryd.prog ops Q (o :: rest) a w := by
  subst hd
  exact wpList_load_row hgd _ x ho g hx T (csA c) (0, 0) _ k Tryd.underlying36 rfl stInfo h
theorem st_st {ops : Array Oper} {rest : List Oper} {o : Oper} {a : Act} {w : World} {Q : Exit → Act → World → Prop} (hgd : o.guard = none) (x y : Operand) (ho : o.op = .store 36 x y) (hd : o.dst = none) {g : Nat} (c : Nat → Int) {old : Array Value} {T : TypeId}
    (k : Blk w g old T) (hold : old.size = 17) (hx : a.eval x = .pointer (some ⟨g, 0, none⟩)) (hy : a.eval y = csV c) (h : wpList Tryd.prog ops Q rest a (w.setRow g (csA c))) : wpList Tryd.prog ops Q (o :: rest) a w :=
  wpList_store_rowTo hgd _ x y ho hd g (csA c) hx hy T old k stInfo hold (csA_one c) h
theorem var_st {w : World} {g : Nat} {c : Nat → Int} {T : TypeId} (k : Blk w g (csA c) T) : (loadVar 36 ⟨g, 0, none⟩).run Tryd.prog w = .ok (csV c) w :=
  run_loadVar_row w g T _ (csA c) (0, 0) _ k Tryd.underlying36 rfl stInfo

theorem Blk.setRow {w : World} {b : Nat} {old cs : Array Value} {T : TypeId} (h : Blk w b old T) : Blk (w.setRow b cs) b cs T := setRow_heap w b old cs T (0, 0) h
theorem Blk.otherRow {w : World} {b g : Nat} {cs new : Array Value} {T : TypeId} (h : Blk w b cs T) (hne : b ≠ g) : Blk (w.setRow g new) b cs T := by
  unfold Blk at *
  rw [setRow_other w g b new hne]
  exact h
theorem Grew.setRow {W w : World} (h : Grew W w) {b : Nat} (hb : W.heap.size ≤ b) (cs : Array Value) : Grew W (w.setRow b cs) :=
  ⟨h.os, h.tape, h.output, by rw [setRow_size]; exact h.size, fun i hi => by rw [setRow_other w b i cs (by omega)]; exact h.block i hi⟩


theorem st_csG {ops : Array Oper} {rest : List Oper} {o : Oper} {a : Act} {w : World} {Q : Exit → Act → World → Prop} (hgd : o.guard = none) (x y : Operand) (ho : o.op = .store 24 x y) (hd : o.dst = none) {g : Nat} (c : Nat → Int) {old : Array Value} {T : TypeId}
    (k : Blk w g old T) (hold : old.size = 17) (hx : a.eval x = .pointer (some ⟨g, 0, none⟩)) (hy : a.eval y = csV c) {W : World} (hg : Grew W w) (hb : W.heap.size ≤ g)
    (h : ∀ w', Blk w' g (csA c) T → Grew W w' → (∀ b cs T, b ≠ g → Blk w b cs T → Blk w' b cs T) → w'.heap.size = w.heap.size → wpList Tryd.prog ops Q rest a w') : wpList Tryd.prog ops Q (o :: rest) a w :=
  st_cs hgd x y ho hd c k hold hx hy (h _ (Blk.setRow k) (hg.setRow hb _) (fun _ _ _ hne hk => hk.otherRow hne) (setRow_size _ _ _))

theorem st_stG {ops : Array Oper} {rest : List Oper} {o : Oper} {a : Act} {w : World} {Q : Exit → Act → World → Prop} (hgd : o.guard = none) (x y : Operand) (ho : o.op = .store 36 x y) (hd : o.dst = none) {g : Nat} (c : Nat → Int) {old : Array Value} {T : TypeId}
    (k : Blk w g old T) (hold : old.size = 17) (hx : a.eval x = .pointer (some ⟨g, 0, none⟩)) (hy : a.eval y = csV c) {W : World} (hg : Grew W w) (hb : W.heap.size ≤ g)
    (h : ∀ w', Blk w' g (csA c) T → Grew W w' → (∀ b cs T, b ≠ g → Blk w b cs T → Blk w' b cs T) → w'.heap.size = w.heap.size → wpList Tryd.prog ops Q rest a w') : wpList Tryd.prog ops Q (o :: rest) a w :=
  st_st hgd x y ho hd c k hold hx hy (h _ (Blk.setRow k) (hg.setRow hb _) (fun _ _ _ hne hk => hk.otherRow hne) (setRow_size _ _ _))

theorem Blk.new2 (w : World) (cs : Array Value) (T : TypeId) (o : Obj) : Blk ((w.alloc (.cells cs T)).alloc o) w.heap.size cs T := (Blk.new w cs T _ rfl).alloc o
theorem Blk.new2b (w : World) (o : Obj) (cs : Array Value) (T : TypeId) : Blk ((w.alloc o).alloc (.cells cs T)) (w.heap.size + 1) cs T := Blk.new _ cs T _ (by simp)


set_option maxRecDepth 100000 in
set_option maxHeartbeats 1000000 in
theorem with_768 (c : Nat → Int) (x : Int) {W w : World} (hg : Grew W w) : Calls Tryd.prog 17 #[csV c, .int .i64 768, .int .u64 x] w fun e w' => e = .returned (csV (upd c 0 (keptV x))) ∧ Grew W w' := by
  go_enter Tryd.func17, Tryd.ntmps17
  go_wp2_with (first
    | (go_at_call 13; refine (kept_c _ _).mono ?_; rintro e w1 ⟨rfl, rfl⟩)
    | ((with_reducible refine ld_st rfl (.tmp 3) rfl _ rfl (Blk.new2 _ _ _ _) ?_ ?_); (rotate_left 1))
    | ((with_reducible refine st_st rfl (.tmp 6) (.tmp 116) rfl rfl (upd c 0 (keptV x)) (Blk.new2b _ _ _ _) ?_ ?_ ?_ ?_); (rotate_left 3)))
  any_goals rfl
  exact bodyPost_ret (v := csV (upd c 0 (keptV x))) (results_cell_row (p := 6) (ty := 36) Tryd.results17 _ _ (w.heap.size + 1) 36 (csA (upd c 0 (keptV x))) (0, 0) _ rfl (Blk.setRow (Blk.new2b _ _ _ _)) Tryd.underlying36 rfl stInfo) rfl ⟨rfl, ((hg.alloc _).alloc _).setRow (by have := hg.size; omega) _⟩


set_option maxRecDepth 100000 in
set_option maxHeartbeats 1000000 in
theorem with_256 (c : Nat → Int) (x : Int) {W w : World} (hg : Grew W w) : Calls Tryd.prog 17 #[csV c, .int .i64 256, .int .u64 x] w fun e w' => e = .returned (csV (upd c 0 (mrg (c 0) x 786722))) ∧ Grew W w' := by
  go_enter Tryd.func17, Tryd.ntmps17
  go_wp2_with (first
    | (go_at_call 26; refine (merge_c _ _ _ _).mono ?_; rintro e w1 ⟨rfl, rfl⟩)
    | ((with_reducible refine ld_st rfl (.tmp 3) rfl _ rfl (Blk.new2 _ _ _ _) ?_ ?_); (rotate_left 1))
    | ((with_reducible refine st_st rfl (.tmp 6) (.tmp 116) rfl rfl (upd c 0 (mrg (c 0) x 786722)) (Blk.new2b _ _ _ _) ?_ ?_ ?_ ?_); (rotate_left 3)))
  any_goals rfl
  exact bodyPost_ret (v := csV (upd c 0 (mrg (c 0) x 786722))) (results_cell_row (p := 6) (ty := 36) Tryd.results17 _ _ (w.heap.size + 1) 36 (csA (upd c 0 (mrg (c 0) x 786722))) (0, 0) _ rfl (Blk.setRow (Blk.new2b _ _ _ _)) Tryd.underlying36 rfl stInfo) rfl ⟨rfl, ((hg.alloc _).alloc _).setRow (by have := hg.size; omega) _⟩


set_option maxRecDepth 100000 in
set_option maxHeartbeats 1000000 in
theorem with_770 (c : Nat → Int) (x : Int) {W w : World} (hg : Grew W w) : Calls Tryd.prog 17 #[csV c, .int .i64 770, .int .u64 x] w fun e w' => e = .returned (csV (upd c 1 (bits .and .u64 x 46079))) ∧ Grew W w' := by
  go_enter Tryd.func17, Tryd.ntmps17
  go_wp2_with (first
    | ((with_reducible refine ld_st rfl (.tmp 3) rfl _ rfl (Blk.new2 _ _ _ _) ?_ ?_); (rotate_left 1))
    | ((with_reducible refine st_st rfl (.tmp 6) (.tmp 116) rfl rfl (upd c 1 (bits .and .u64 x 46079)) (Blk.new2b _ _ _ _) ?_ ?_ ?_ ?_); (rotate_left 3)))
  any_goals rfl
  exact bodyPost_ret (v := csV (upd c 1 (bits .and .u64 x 46079))) (results_cell_row (p := 6) (ty := 36) Tryd.results17 _ _ (w.heap.size + 1) 36 (csA (upd c 1 (bits .and .u64 x 46079))) (0, 0) _ rfl (Blk.setRow (Blk.new2b _ _ _ _)) Tryd.underlying36 rfl stInfo) rfl ⟨rfl, ((hg.alloc _).alloc _).setRow (by have := hg.size; omega) _⟩


set_option maxRecDepth 100000 in
set_option maxHeartbeats 1000000 in
theorem with_771 (c : Nat → Int) (x : Int) {W w : World} (hg : Grew W w) : Calls Tryd.prog 17 #[csV c, .int .i64 771, .int .u64 x] w fun e w' => e = .returned (csV (upd c 2 (bits .and .u64 x 546))) ∧ Grew W w' := by
  go_enter Tryd.func17, Tryd.ntmps17
  go_wp2_with (first
    | ((with_reducible refine ld_st rfl (.tmp 3) rfl _ rfl (Blk.new2 _ _ _ _) ?_ ?_); (rotate_left 1))
    | ((with_reducible refine st_st rfl (.tmp 6) (.tmp 116) rfl rfl (upd c 2 (bits .and .u64 x 546)) (Blk.new2b _ _ _ _) ?_ ?_ ?_ ?_); (rotate_left 3)))
  any_goals rfl
  exact bodyPost_ret (v := csV (upd c 2 (bits .and .u64 x 546))) (results_cell_row (p := 6) (ty := 36) Tryd.results17 _ _ (w.heap.size + 1) 36 (csA (upd c 2 (bits .and .u64 x 546))) (0, 0) _ rfl (Blk.setRow (Blk.new2b _ _ _ _)) Tryd.underlying36 rfl stInfo) rfl ⟨rfl, ((hg.alloc _).alloc _).setRow (by have := hg.size; omega) _⟩


set_option maxRecDepth 100000 in
set_option maxHeartbeats 1000000 in
theorem with_772 (c : Nat → Int) (x : Int) {W w : World} (hg : Grew W w) : Calls Tryd.prog 17 #[csV c, .int .i64 772, .int .u64 x] w fun e w' => e = .returned (csV (upd c 3 (bits .and .u64 x 2730))) ∧ Grew W w' := by
  go_enter Tryd.func17, Tryd.ntmps17
  go_wp2_with (first
    | ((with_reducible refine ld_st rfl (.tmp 3) rfl _ rfl (Blk.new2 _ _ _ _) ?_ ?_); (rotate_left 1))
    | ((with_reducible refine st_st rfl (.tmp 6) (.tmp 116) rfl rfl (upd c 3 (bits .and .u64 x 2730)) (Blk.new2b _ _ _ _) ?_ ?_ ?_ ?_); (rotate_left 3)))
  any_goals rfl
  exact bodyPost_ret (v := csV (upd c 3 (bits .and .u64 x 2730))) (results_cell_row (p := 6) (ty := 36) Tryd.results17 _ _ (w.heap.size + 1) 36 (csA (upd c 3 (bits .and .u64 x 2730))) (0, 0) _ rfl (Blk.setRow (Blk.new2b _ _ _ _)) Tryd.underlying36 rfl stInfo) rfl ⟨rfl, ((hg.alloc _).alloc _).setRow (by have := hg.size; omega) _⟩


set_option maxRecDepth 100000 in
set_option maxHeartbeats 1000000 in
theorem with_260 (c : Nat → Int) (x : Int) {W w : World} (hg : Grew W w) : Calls Tryd.prog 17 #[csV c, .int .i64 260, .int .u64 x] w fun e w' => e = .returned (csV (upd c 3 (mrg (c 3) x (bits .and .u64 (c 2) 2730)))) ∧ Grew W w' := by
  go_enter Tryd.func17, Tryd.ntmps17
  go_wp2_with (first
    | (go_at_call 26; refine (merge_c _ _ _ _).mono ?_; rintro e w1 ⟨rfl, rfl⟩)
    | ((with_reducible refine ld_st rfl (.tmp 3) rfl _ rfl (Blk.new2 _ _ _ _) ?_ ?_); (rotate_left 1))
    | ((with_reducible refine st_st rfl (.tmp 6) (.tmp 116) rfl rfl (upd c 3 (mrg (c 3) x (bits .and .u64 (c 2) 2730))) (Blk.new2b _ _ _ _) ?_ ?_ ?_ ?_); (rotate_left 3)))
  any_goals rfl
  exact bodyPost_ret (v := csV (upd c 3 (mrg (c 3) x (bits .and .u64 (c 2) 2730)))) (results_cell_row (p := 6) (ty := 36) Tryd.results17 _ _ (w.heap.size + 1) 36 (csA (upd c 3 (mrg (c 3) x (bits .and .u64 (c 2) 2730)))) (0, 0) _ rfl (Blk.setRow (Blk.new2b _ _ _ _)) Tryd.underlying36 rfl stInfo) rfl ⟨rfl, ((hg.alloc _).alloc _).setRow (by have := hg.size; omega) _⟩


set_option maxRecDepth 100000 in
set_option maxHeartbeats 1000000 in
theorem with_836 (c : Nat → Int) (x : Int) {W w : World} (hg : Grew W w) : Calls Tryd.prog 17 #[csV c, .int .i64 836, .int .u64 x] w fun e w' => e = .returned (csV (upd c 4 (mrg (c 4) x 546))) ∧ Grew W w' := by
  go_enter Tryd.func17, Tryd.ntmps17
  go_wp2_with (first
    | (go_at_call 26; refine (merge_c _ _ _ _).mono ?_; rintro e w1 ⟨rfl, rfl⟩)
    | ((with_reducible refine ld_st rfl (.tmp 3) rfl _ rfl (Blk.new2 _ _ _ _) ?_ ?_); (rotate_left 1))
    | ((with_reducible refine st_st rfl (.tmp 6) (.tmp 116) rfl rfl (upd c 4 (mrg (c 4) x 546)) (Blk.new2b _ _ _ _) ?_ ?_ ?_ ?_); (rotate_left 3)))
  any_goals rfl
  exact bodyPost_ret (v := csV (upd c 4 (mrg (c 4) x 546))) (results_cell_row (p := 6) (ty := 36) Tryd.results17 _ _ (w.heap.size + 1) 36 (csA (upd c 4 (mrg (c 4) x 546))) (0, 0) _ rfl (Blk.setRow (Blk.new2b _ _ _ _)) Tryd.underlying36 rfl stInfo) rfl ⟨rfl, ((hg.alloc _).alloc _).setRow (by have := hg.size; omega) _⟩


set_option maxRecDepth 100000 in
set_option maxHeartbeats 1000000 in
theorem with_324 (c : Nat → Int) (x : Int) {W w : World} (hg : Grew W w) : Calls Tryd.prog 17 #[csV c, .int .i64 324, .int .u64 x] w fun e w' => e = .returned (csV (upd c 4 (mrg (c 4) x (bits .and .u64 (c 2) 2)))) ∧ Grew W w' := by
  go_enter Tryd.func17, Tryd.ntmps17
  go_wp2_with (first
    | (go_at_call 26; refine (merge_c _ _ _ _).mono ?_; rintro e w1 ⟨rfl, rfl⟩)
    | ((with_reducible refine ld_st rfl (.tmp 3) rfl _ rfl (Blk.new2 _ _ _ _) ?_ ?_); (rotate_left 1))
    | ((with_reducible refine st_st rfl (.tmp 6) (.tmp 116) rfl rfl (upd c 4 (mrg (c 4) x (bits .and .u64 (c 2) 2))) (Blk.new2b _ _ _ _) ?_ ?_ ?_ ?_); (rotate_left 3)))
  any_goals rfl
  exact bodyPost_ret (v := csV (upd c 4 (mrg (c 4) x (bits .and .u64 (c 2) 2)))) (results_cell_row (p := 6) (ty := 36) Tryd.results17 _ _ (w.heap.size + 1) 36 (csA (upd c 4 (mrg (c 4) x (bits .and .u64 (c 2) 2)))) (0, 0) _ rfl (Blk.setRow (Blk.new2b _ _ _ _)) Tryd.underlying36 rfl stInfo) rfl ⟨rfl, ((hg.alloc _).alloc _).setRow (by have := hg.size; omega) _⟩


set_option maxRecDepth 100000 in
set_option maxHeartbeats 1000000 in
theorem with_773 (c : Nat → Int) (x : Int) {W w : World} (hg : Grew W w) : Calls Tryd.prog 17 #[csV c, .int .i64 773, .int .u64 x] w fun e w' => e = .returned (csV (upd c 5 (bits .and .u64 x 18446744073709551613))) ∧ Grew W w' := by
  go_enter Tryd.func17, Tryd.ntmps17
  go_wp2_with (first
    | ((with_reducible refine ld_st rfl (.tmp 3) rfl _ rfl (Blk.new2 _ _ _ _) ?_ ?_); (rotate_left 1))
    | ((with_reducible refine st_st rfl (.tmp 6) (.tmp 116) rfl rfl (upd c 5 (bits .and .u64 x 18446744073709551613)) (Blk.new2b _ _ _ _) ?_ ?_ ?_ ?_); (rotate_left 3)))
  any_goals rfl
  exact bodyPost_ret (v := csV (upd c 5 (bits .and .u64 x 18446744073709551613))) (results_cell_row (p := 6) (ty := 36) Tryd.results17 _ _ (w.heap.size + 1) 36 (csA (upd c 5 (bits .and .u64 x 18446744073709551613))) (0, 0) _ rfl (Blk.setRow (Blk.new2b _ _ _ _)) Tryd.underlying36 rfl stInfo) rfl ⟨rfl, ((hg.alloc _).alloc _).setRow (by have := hg.size; omega) _⟩


set_option maxRecDepth 100000 in
set_option maxHeartbeats 1000000 in
theorem with_261 (c : Nat → Int) (x : Int) {W w : World} (hg : Grew W w) : Calls Tryd.prog 17 #[csV c, .int .i64 261, .int .u64 x] w fun e w' => e = .returned (csV (upd c 10 (bits .and .u64 x 18446744073709551613))) ∧ Grew W w' := by
  go_enter Tryd.func17, Tryd.ntmps17
  go_wp2_with (first
    | ((with_reducible refine ld_st rfl (.tmp 3) rfl _ rfl (Blk.new2 _ _ _ _) ?_ ?_); (rotate_left 1))
    | ((with_reducible refine st_st rfl (.tmp 6) (.tmp 116) rfl rfl (upd c 10 (bits .and .u64 x 18446744073709551613)) (Blk.new2b _ _ _ _) ?_ ?_ ?_ ?_); (rotate_left 3)))
  any_goals rfl
  exact bodyPost_ret (v := csV (upd c 10 (bits .and .u64 x 18446744073709551613))) (results_cell_row (p := 6) (ty := 36) Tryd.results17 _ _ (w.heap.size + 1) 36 (csA (upd c 10 (bits .and .u64 x 18446744073709551613))) (0, 0) _ rfl (Blk.setRow (Blk.new2b _ _ _ _)) Tryd.underlying36 rfl stInfo) rfl ⟨rfl, ((hg.alloc _).alloc _).setRow (by have := hg.size; omega) _⟩


set_option maxRecDepth 100000 in
set_option maxHeartbeats 1000000 in
theorem with_832 (c : Nat → Int) (x : Int) {W w : World} (hg : Grew W w) : Calls Tryd.prog 17 #[csV c, .int .i64 832, .int .u64 x] w fun e w' => e = .returned (csV (upd c 6 (x))) ∧ Grew W w' := by
  go_enter Tryd.func17, Tryd.ntmps17
  go_wp2_with (first
    | ((with_reducible refine ld_st rfl (.tmp 3) rfl _ rfl (Blk.new2 _ _ _ _) ?_ ?_); (rotate_left 1))
    | ((with_reducible refine st_st rfl (.tmp 6) (.tmp 116) rfl rfl (upd c 6 (x)) (Blk.new2b _ _ _ _) ?_ ?_ ?_ ?_); (rotate_left 3)))
  any_goals rfl
  exact bodyPost_ret (v := csV (upd c 6 (x))) (results_cell_row (p := 6) (ty := 36) Tryd.results17 _ _ (w.heap.size + 1) 36 (csA (upd c 6 (x))) (0, 0) _ rfl (Blk.setRow (Blk.new2b _ _ _ _)) Tryd.underlying36 rfl stInfo) rfl ⟨rfl, ((hg.alloc _).alloc _).setRow (by have := hg.size; omega) _⟩


set_option maxRecDepth 100000 in
set_option maxHeartbeats 1000000 in
theorem with_320 (c : Nat → Int) (x : Int) {W w : World} (hg : Grew W w) : Calls Tryd.prog 17 #[csV c, .int .i64 320, .int .u64 x] w fun e w' => e = .returned (csV (upd c 11 (x))) ∧ Grew W w' := by
  go_enter Tryd.func17, Tryd.ntmps17
  go_wp2_with (first
    | ((with_reducible refine ld_st rfl (.tmp 3) rfl _ rfl (Blk.new2 _ _ _ _) ?_ ?_); (rotate_left 1))
    | ((with_reducible refine st_st rfl (.tmp 6) (.tmp 116) rfl rfl (upd c 11 (x)) (Blk.new2b _ _ _ _) ?_ ?_ ?_ ?_); (rotate_left 3)))
  any_goals rfl
  exact bodyPost_ret (v := csV (upd c 11 (x))) (results_cell_row (p := 6) (ty := 36) Tryd.results17 _ _ (w.heap.size + 1) 36 (csA (upd c 11 (x))) (0, 0) _ rfl (Blk.setRow (Blk.new2b _ _ _ _)) Tryd.underlying36 rfl stInfo) rfl ⟨rfl, ((hg.alloc _).alloc _).setRow (by have := hg.size; omega) _⟩


set_option maxRecDepth 100000 in
set_option maxHeartbeats 1000000 in
theorem with_833 (c : Nat → Int) (x : Int) {W w : World} (hg : Grew W w) : Calls Tryd.prog 17 #[csV c, .int .i64 833, .int .u64 x] w fun e w' => e = .returned (csV (upd c 7 (bits .and .u64 x 18446744073709551614))) ∧ Grew W w' := by
  go_enter Tryd.func17, Tryd.ntmps17
  go_wp2_with (first
    | ((with_reducible refine ld_st rfl (.tmp 3) rfl _ rfl (Blk.new2 _ _ _ _) ?_ ?_); (rotate_left 1))
    | ((with_reducible refine st_st rfl (.tmp 6) (.tmp 116) rfl rfl (upd c 7 (bits .and .u64 x 18446744073709551614)) (Blk.new2b _ _ _ _) ?_ ?_ ?_ ?_); (rotate_left 3)))
  any_goals rfl
  exact bodyPost_ret (v := csV (upd c 7 (bits .and .u64 x 18446744073709551614))) (results_cell_row (p := 6) (ty := 36) Tryd.results17 _ _ (w.heap.size + 1) 36 (csA (upd c 7 (bits .and .u64 x 18446744073709551614))) (0, 0) _ rfl (Blk.setRow (Blk.new2b _ _ _ _)) Tryd.underlying36 rfl stInfo) rfl ⟨rfl, ((hg.alloc _).alloc _).setRow (by have := hg.size; omega) _⟩


set_option maxRecDepth 100000 in
set_option maxHeartbeats 1000000 in
theorem with_321 (c : Nat → Int) (x : Int) {W w : World} (hg : Grew W w) : Calls Tryd.prog 17 #[csV c, .int .i64 321, .int .u64 x] w fun e w' => e = .returned (csV (upd c 12 (bits .and .u64 x 18446744073709551614))) ∧ Grew W w' := by
  go_enter Tryd.func17, Tryd.ntmps17
  go_wp2_with (first
    | ((with_reducible refine ld_st rfl (.tmp 3) rfl _ rfl (Blk.new2 _ _ _ _) ?_ ?_); (rotate_left 1))
    | ((with_reducible refine st_st rfl (.tmp 6) (.tmp 116) rfl rfl (upd c 12 (bits .and .u64 x 18446744073709551614)) (Blk.new2b _ _ _ _) ?_ ?_ ?_ ?_); (rotate_left 3)))
  any_goals rfl
  exact bodyPost_ret (v := csV (upd c 12 (bits .and .u64 x 18446744073709551614))) (results_cell_row (p := 6) (ty := 36) Tryd.results17 _ _ (w.heap.size + 1) 36 (csA (upd c 12 (bits .and .u64 x 18446744073709551614))) (0, 0) _ rfl (Blk.setRow (Blk.new2b _ _ _ _)) Tryd.underlying36 rfl stInfo) rfl ⟨rfl, ((hg.alloc _).alloc _).setRow (by have := hg.size; omega) _⟩


set_option maxRecDepth 100000 in
set_option maxHeartbeats 1000000 in
theorem with_834 (c : Nat → Int) (x : Int) {W w : World} (hg : Grew W w) : Calls Tryd.prog 17 #[csV c, .int .i64 834, .int .u64 x] w fun e w' => e = .returned (csV (upd c 8 (x))) ∧ Grew W w' := by
  go_enter Tryd.func17, Tryd.ntmps17
  go_wp2_with (first
    | ((with_reducible refine ld_st rfl (.tmp 3) rfl _ rfl (Blk.new2 _ _ _ _) ?_ ?_); (rotate_left 1))
    | ((with_reducible refine st_st rfl (.tmp 6) (.tmp 116) rfl rfl (upd c 8 (x)) (Blk.new2b _ _ _ _) ?_ ?_ ?_ ?_); (rotate_left 3)))
  any_goals rfl
  exact bodyPost_ret (v := csV (upd c 8 (x))) (results_cell_row (p := 6) (ty := 36) Tryd.results17 _ _ (w.heap.size + 1) 36 (csA (upd c 8 (x))) (0, 0) _ rfl (Blk.setRow (Blk.new2b _ _ _ _)) Tryd.underlying36 rfl stInfo) rfl ⟨rfl, ((hg.alloc _).alloc _).setRow (by have := hg.size; omega) _⟩


set_option maxRecDepth 100000 in
set_option maxHeartbeats 1000000 in
theorem with_322 (c : Nat → Int) (x : Int) {W w : World} (hg : Grew W w) : Calls Tryd.prog 17 #[csV c, .int .i64 322, .int .u64 x] w fun e w' => e = .returned (csV (upd c 13 (x))) ∧ Grew W w' := by
  go_enter Tryd.func17, Tryd.ntmps17
  go_wp2_with (first
    | ((with_reducible refine ld_st rfl (.tmp 3) rfl _ rfl (Blk.new2 _ _ _ _) ?_ ?_); (rotate_left 1))
    | ((with_reducible refine st_st rfl (.tmp 6) (.tmp 116) rfl rfl (upd c 13 (x)) (Blk.new2b _ _ _ _) ?_ ?_ ?_ ?_); (rotate_left 3)))
  any_goals rfl
  exact bodyPost_ret (v := csV (upd c 13 (x))) (results_cell_row (p := 6) (ty := 36) Tryd.results17 _ _ (w.heap.size + 1) 36 (csA (upd c 13 (x))) (0, 0) _ rfl (Blk.setRow (Blk.new2b _ _ _ _)) Tryd.underlying36 rfl stInfo) rfl ⟨rfl, ((hg.alloc _).alloc _).setRow (by have := hg.size; omega) _⟩


set_option maxRecDepth 100000 in
set_option maxHeartbeats 1000000 in
theorem with_835 (c : Nat → Int) (x : Int) {W w : World} (hg : Grew W w) : Calls Tryd.prog 17 #[csV c, .int .i64 835, .int .u64 x] w fun e w' => e = .returned (csV (upd c 9 (x))) ∧ Grew W w' := by
  go_enter Tryd.func17, Tryd.ntmps17
  go_wp2_with (first
    | ((with_reducible refine ld_st rfl (.tmp 3) rfl _ rfl (Blk.new2 _ _ _ _) ?_ ?_); (rotate_left 1))
    | ((with_reducible refine st_st rfl (.tmp 6) (.tmp 116) rfl rfl (upd c 9 (x)) (Blk.new2b _ _ _ _) ?_ ?_ ?_ ?_); (rotate_left 3)))
  any_goals rfl
  exact bodyPost_ret (v := csV (upd c 9 (x))) (results_cell_row (p := 6) (ty := 36) Tryd.results17 _ _ (w.heap.size + 1) 36 (csA (upd c 9 (x))) (0, 0) _ rfl (Blk.setRow (Blk.new2b _ _ _ _)) Tryd.underlying36 rfl stInfo) rfl ⟨rfl, ((hg.alloc _).alloc _).setRow (by have := hg.size; omega) _⟩


set_option maxRecDepth 100000 in
set_option maxHeartbeats 1000000 in
theorem with_323 (c : Nat → Int) (x : Int) {W w : World} (hg : Grew W w) : Calls Tryd.prog 17 #[csV c, .int .i64 323, .int .u64 x] w fun e w' => e = .returned (csV (upd c 14 (x))) ∧ Grew W w' := by
  go_enter Tryd.func17, Tryd.ntmps17
  go_wp2_with (first
    | ((with_reducible refine ld_st rfl (.tmp 3) rfl _ rfl (Blk.new2 _ _ _ _) ?_ ?_); (rotate_left 1))
    | ((with_reducible refine st_st rfl (.tmp 6) (.tmp 116) rfl rfl (upd c 14 (x)) (Blk.new2b _ _ _ _) ?_ ?_ ?_ ?_); (rotate_left 3)))
  any_goals rfl
  exact bodyPost_ret (v := csV (upd c 14 (x))) (results_cell_row (p := 6) (ty := 36) Tryd.results17 _ _ (w.heap.size + 1) 36 (csA (upd c 14 (x))) (0, 0) _ rfl (Blk.setRow (Blk.new2b _ _ _ _)) Tryd.underlying36 rfl stInfo) rfl ⟨rfl, ((hg.alloc _).alloc _).setRow (by have := hg.size; omega) _⟩


set_option maxRecDepth 100000 in
set_option maxHeartbeats 1000000 in
theorem with_satp (c : Nat → Int) (x : Int) (h0 : 0 ≤ x) (h1 : x < 18446744073709551616) (hs : satpB x = true) {W w : World} (hg : Grew W w) : Calls Tryd.prog 17 #[csV c, .int .i64 384, .int .u64 x] w fun e w' => e = .returned (csV (upd c 15 x)) ∧ Grew W w' := by
  go_enter Tryd.func17, Tryd.ntmps17
  go_wp2_with (first
    | (go_at_call 15; refine (satp_c _ h0 h1 _).mono ?_; rintro e w1 ⟨rfl, rfl⟩)
    | ((with_reducible refine ld_st rfl (.tmp 3) rfl _ rfl (Blk.new2 _ _ _ _) ?_ ?_); (rotate_left 1))
    | ((with_reducible refine st_st rfl (.tmp 6) (.tmp 116) rfl rfl (upd c 15 x) (Blk.new2b _ _ _ _) ?_ ?_ ?_ ?_); (rotate_left 3)))
  any_goals rfl
  exact bodyPost_ret (v := csV (upd c 15 x)) (results_cell_row (p := 6) (ty := 36) Tryd.results17 _ _ (w.heap.size + 1) 36 (csA (upd c 15 x)) (0, 0) _ rfl (Blk.setRow (Blk.new2b _ _ _ _)) Tryd.underlying36 rfl stInfo) rfl ⟨rfl, ((hg.alloc _).alloc _).setRow (by have := hg.size; omega) _⟩


set_option maxRecDepth 100000 in
set_option maxHeartbeats 1000000 in
theorem with_nosatp (c : Nat → Int) (x : Int) (h0 : 0 ≤ x) (h1 : x < 18446744073709551616) (hs : satpB x = false) {W w : World} (hg : Grew W w) : Calls Tryd.prog 17 #[csV c, .int .i64 384, .int .u64 x] w fun e w' => e = .returned (csV (c)) ∧ Grew W w' := by
  go_enter Tryd.func17, Tryd.ntmps17
  go_wp2_with (first
    | (go_at_call 15; refine (satp_c _ h0 h1 _).mono ?_; rintro e w1 ⟨rfl, rfl⟩)
    | ((with_reducible refine ld_st rfl (.tmp 3) rfl _ rfl (Blk.new2 _ _ _ _) ?_ ?_); (rotate_left 1))
    | ((with_reducible refine st_st rfl (.tmp 6) (.tmp 116) rfl rfl (c) (Blk.new2b _ _ _ _) ?_ ?_ ?_ ?_); (rotate_left 3)))
  any_goals rfl
  exact bodyPost_ret (v := csV (c)) (results_cell_row (p := 6) (ty := 36) Tryd.results17 _ _ (w.heap.size + 1) 36 (csA (c)) (0, 0) _ rfl (Blk.setRow (Blk.new2b _ _ _ _)) Tryd.underlying36 rfl stInfo) rfl ⟨rfl, ((hg.alloc _).alloc _).setRow (by have := hg.size; omega) _⟩


set_option maxRecDepth 100000 in
set_option maxHeartbeats 1000000 in
theorem with_2816 (c : Nat → Int) (x : Int) {W w : World} (hg : Grew W w) : Calls Tryd.prog 17 #[csV c, .int .i64 2816, .int .u64 x] w fun e w' => e = .returned (csV (upd c 16 (x))) ∧ Grew W w' := by
  go_enter Tryd.func17, Tryd.ntmps17
  go_wp2_with (first
    | ((with_reducible refine ld_st rfl (.tmp 3) rfl _ rfl (Blk.new2 _ _ _ _) ?_ ?_); (rotate_left 1))
    | ((with_reducible refine st_st rfl (.tmp 6) (.tmp 116) rfl rfl (upd c 16 (x)) (Blk.new2b _ _ _ _) ?_ ?_ ?_ ?_); (rotate_left 3)))
  any_goals rfl
  exact bodyPost_ret (v := csV (upd c 16 (x))) (results_cell_row (p := 6) (ty := 36) Tryd.results17 _ _ (w.heap.size + 1) 36 (csA (upd c 16 (x))) (0, 0) _ rfl (Blk.setRow (Blk.new2b _ _ _ _)) Tryd.underlying36 rfl stInfo) rfl ⟨rfl, ((hg.alloc _).alloc _).setRow (by have := hg.size; omega) _⟩


set_option maxRecDepth 100000 in
set_option maxHeartbeats 1000000 in
theorem with_other (c : Nat → Int) (x : Int) (n : Int) (hn : (n == 768) = false ∧ (n == 256) = false ∧ (n == 770) = false ∧ (n == 771) = false ∧ (n == 772) = false ∧ (n == 260) = false ∧ (n == 836) = false ∧ (n == 324) = false ∧ (n == 773) = false ∧ (n == 261) = false ∧ (n == 832) = false ∧ (n == 320) = false ∧ (n == 833) = false ∧ (n == 321) = false ∧ (n == 834) = false ∧ (n == 322) = false ∧ (n == 835) = false ∧ (n == 323) = false ∧ (n == 384) = false ∧ (n == 2816) = false) {W w : World} (hg : Grew W w) : Calls Tryd.prog 17 #[csV c, .int .i64 n, .int .u64 x] w fun e w' => e = .returned (csV (c)) ∧ Grew W w' := by
  obtain ⟨h768, h256, h770, h771, h772, h260, h836, h324, h773, h261, h832, h320, h833, h321, h834, h322, h835, h323, h384, h2816⟩ := hn
  go_enter Tryd.func17, Tryd.ntmps17
  go_wp2_with (first
    | ((with_reducible refine ld_st rfl (.tmp 3) rfl _ rfl (Blk.new2 _ _ _ _) ?_ ?_); (rotate_left 1))
    | ((with_reducible refine st_st rfl (.tmp 6) (.tmp 116) rfl rfl (c) (Blk.new2b _ _ _ _) ?_ ?_ ?_ ?_); (rotate_left 3)))
  any_goals rfl
  exact bodyPost_ret (v := csV (c)) (results_cell_row (p := 6) (ty := 36) Tryd.results17 _ _ (w.heap.size + 1) 36 (csA (c)) (0, 0) _ rfl (Blk.setRow (Blk.new2b _ _ _ _)) Tryd.underlying36 rfl stInfo) rfl ⟨rfl, ((hg.alloc _).alloc _).setRow (by have := hg.size; omega) _⟩

end Go.Proofs.YtpehfmchcjanhaaDoor
