/-
  Control registers as one value, loaded and stored whole (for seats without package csr's own type of them).
-/
import Derived.Test.YtbkbbcfhmjodlaaDoorOpenCsr
import Derived.Test.YtbkbbcfhmjodlaaDoorGrew
import Derived.Test.YtbkbbcfhmjodlaaDoorTail
import Derived.Great.BuildSlice
import Derived.Deep.WholeRow
import Derived.Deep.DeepCutAuto
import Derived.BigFrame
set_option linter.unusedVariables false
set_option linter.unusedSimpArgs false
namespace Go.Proofs.YtbkbbcfhmjodlaaDoor
open Go.RowKit

theorem csA_size (c : Nat → Int) : (csA c).size = 17 := rfl
@[simp] theorem csA_0 (c : Nat → Int) : (csA c)[0]? = some (.int .u64 (c 0)) := rfl
@[simp] theorem csA_1 (c : Nat → Int) : (csA c)[1]? = some (.int .u64 (c 1)) := rfl
@[simp] theorem csA_2 (c : Nat → Int) : (csA c)[2]? = some (.int .u64 (c 2)) := rfl
@[simp] theorem csA_3 (c : Nat → Int) : (csA c)[3]? = some (.int .u64 (c 3)) := rfl
@[simp] theorem csA_4 (c : Nat → Int) : (csA c)[4]? = some (.int .u64 (c 4)) := rfl
@[simp] theorem csA_5 (c : Nat → Int) : (csA c)[5]? = some (.int .u64 (c 5)) := rfl
@[simp] theorem csA_6 (c : Nat → Int) : (csA c)[6]? = some (.int .u64 (c 6)) := rfl
@[simp] theorem csA_7 (c : Nat → Int) : (csA c)[7]? = some (.int .u64 (c 7)) := rfl
@[simp] theorem csA_8 (c : Nat → Int) : (csA c)[8]? = some (.int .u64 (c 8)) := rfl
@[simp] theorem csA_9 (c : Nat → Int) : (csA c)[9]? = some (.int .u64 (c 9)) := rfl
@[simp] theorem csA_10 (c : Nat → Int) : (csA c)[10]? = some (.int .u64 (c 10)) := rfl
@[simp] theorem csA_11 (c : Nat → Int) : (csA c)[11]? = some (.int .u64 (c 11)) := rfl
@[simp] theorem csA_12 (c : Nat → Int) : (csA c)[12]? = some (.int .u64 (c 12)) := rfl
@[simp] theorem csA_13 (c : Nat → Int) : (csA c)[13]? = some (.int .u64 (c 13)) := rfl
@[simp] theorem csA_14 (c : Nat → Int) : (csA c)[14]? = some (.int .u64 (c 14)) := rfl
@[simp] theorem csA_15 (c : Nat → Int) : (csA c)[15]? = some (.int .u64 (c 15)) := rfl
@[simp] theorem csA_16 (c : Nat → Int) : (csA c)[16]? = some (.int .u64 (c 16)) := rfl
theorem csA_one (c : Nat → Int) : ((csA c).all fun x => x.oneCell') = true := by simp [csA, Value.oneCell']
theorem csInfo : (Tryd.prog.info? 24).map (·.size) = some 17 := by kernel_rfl
def upd (c : Nat → Int) (i : Nat) (v : Int) : Nat → Int := fun j => if j = i then v else c j
theorem upd_ok {c : Nat → Int} (h : csOk c) (i : Nat) (v : Int) (h0 : 0 ≤ v) (h1 : v < 18446744073709551616) : csOk (upd c i v) := fun j => by
  unfold upd
  split
  · exact ⟨h0, h1⟩
  · exact h j
theorem csA_upd (c : Nat → Int) (i : Nat) (v : Int) (hi : i < 17) : (csA c).setIfInBounds i (.int .u64 v) = csA (upd c i v) := by
  obtain rfl | rfl | rfl | rfl | rfl | rfl | rfl | rfl | rfl | rfl | rfl | rfl | rfl | rfl | rfl | rfl | rfl : i = 0 ∨ i = 1 ∨ i = 2 ∨ i = 3 ∨ i = 4 ∨ i = 5 ∨ i = 6 ∨ i = 7 ∨ i = 8 ∨ i = 9 ∨ i = 10 ∨ i = 11 ∨ i = 12 ∨ i = 13 ∨ i = 14 ∨ i = 15 ∨ i = 16 := by omega
  all_goals simp [csA, upd]

@[simp] theorem csU_0 (c : Nat → Int) (v : Int) : (csA c).setIfInBounds 0 (.int .u64 v) = csA (upd c 0 v) := csA_upd c 0 v (by decide)
@[simp] theorem csU_1 (c : Nat → Int) (v : Int) : (csA c).setIfInBounds 1 (.int .u64 v) = csA (upd c 1 v) := csA_upd c 1 v (by decide)
@[simp] theorem csU_2 (c : Nat → Int) (v : Int) : (csA c).setIfInBounds 2 (.int .u64 v) = csA (upd c 2 v) := csA_upd c 2 v (by decide)
@[simp] theorem csU_3 (c : Nat → Int) (v : Int) : (csA c).setIfInBounds 3 (.int .u64 v) = csA (upd c 3 v) := csA_upd c 3 v (by decide)
@[simp] theorem csU_4 (c : Nat → Int) (v : Int) : (csA c).setIfInBounds 4 (.int .u64 v) = csA (upd c 4 v) := csA_upd c 4 v (by decide)
@[simp] theorem csU_5 (c : Nat → Int) (v : Int) : (csA c).setIfInBounds 5 (.int .u64 v) = csA (upd c 5 v) := csA_upd c 5 v (by decide)
@[simp] theorem csU_6 (c : Nat → Int) (v : Int) : (csA c).setIfInBounds 6 (.int .u64 v) = csA (upd c 6 v) := csA_upd c 6 v (by decide)
@[simp] theorem csU_7 (c : Nat → Int) (v : Int) : (csA c).setIfInBounds 7 (.int .u64 v) = csA (upd c 7 v) := csA_upd c 7 v (by decide)
@[simp] theorem csU_8 (c : Nat → Int) (v : Int) : (csA c).setIfInBounds 8 (.int .u64 v) = csA (upd c 8 v) := csA_upd c 8 v (by decide)
@[simp] theorem csU_9 (c : Nat → Int) (v : Int) : (csA c).setIfInBounds 9 (.int .u64 v) = csA (upd c 9 v) := csA_upd c 9 v (by decide)
@[simp] theorem csU_10 (c : Nat → Int) (v : Int) : (csA c).setIfInBounds 10 (.int .u64 v) = csA (upd c 10 v) := csA_upd c 10 v (by decide)
@[simp] theorem csU_11 (c : Nat → Int) (v : Int) : (csA c).setIfInBounds 11 (.int .u64 v) = csA (upd c 11 v) := csA_upd c 11 v (by decide)
@[simp] theorem csU_12 (c : Nat → Int) (v : Int) : (csA c).setIfInBounds 12 (.int .u64 v) = csA (upd c 12 v) := csA_upd c 12 v (by decide)
@[simp] theorem csU_13 (c : Nat → Int) (v : Int) : (csA c).setIfInBounds 13 (.int .u64 v) = csA (upd c 13 v) := csA_upd c 13 v (by decide)
@[simp] theorem csU_14 (c : Nat → Int) (v : Int) : (csA c).setIfInBounds 14 (.int .u64 v) = csA (upd c 14 v) := csA_upd c 14 v (by decide)
@[simp] theorem csU_15 (c : Nat → Int) (v : Int) : (csA c).setIfInBounds 15 (.int .u64 v) = csA (upd c 15 v) := csA_upd c 15 v (by decide)
@[simp] theorem csU_16 (c : Nat → Int) (v : Int) : (csA c).setIfInBounds 16 (.int .u64 v) = csA (upd c 16 v) := csA_upd c 16 v (by decide)

theorem ld_cs {ops : Array Oper} {rest : List Oper} {o : Oper} {a : Act} {w : World} {Q : Exit → Act → World → Prop} (hgd : o.guard = none) (x : Operand) (ho : o.op = .load 24 x) (d : Option Tmp) (hd : o.dst = d) {g : Nat} {c : Nat → Int} {T : TypeId}
    (k : Blk w g (csA c) T) (hx : a.eval x = .pointer (some ⟨g, 0, none⟩)) (h : wpList Tryd.prog ops Q rest (a.put d (csV c)) w) : wpList Tryd.prog ops Q (o :: rest) a w := by
  subst hd
  exact wpList_load_row hgd _ x ho g hx T (csA c) (0, 0) _ k Tryd.underlying24 rfl csInfo h
theorem st_cs {ops : Array Oper} {rest : List Oper} {o : Oper} {a : Act} {w : World} {Q : Exit → Act → World → Prop} (hgd : o.guard = none) (x y : Operand) (ho : o.op = .store 24 x y) (hd : o.dst = none) {g : Nat} (c : Nat → Int) {old : Array Value} {T : TypeId}
    (k : Blk w g old T) (hold : old.size = 17) (hx : a.eval x = .pointer (some ⟨g, 0, none⟩)) (hy : a.eval y = csV c) (h : wpList Tryd.prog ops Q rest a (w.setRow g (csA c))) : wpList Tryd.prog ops Q (o :: rest) a w :=
  wpList_store_rowTo hgd _ x y ho hd g (csA c) hx hy T old k csInfo hold (csA_one c) h
theorem var_cs {w : World} {g : Nat} {c : Nat → Int} {T : TypeId} (k : Blk w g (csA c) T) : (loadVar 24 ⟨g, 0, none⟩).run Tryd.prog w = .ok (csV c) w :=
  run_loadVar_row w g T _ (csA c) (0, 0) _ k Tryd.underlying24 rfl csInfo

theorem Blk.setRow {w : World} {b : Nat} {old cs : Array Value} {T : TypeId} (h : Blk w b old T) : Blk (w.setRow b cs) b cs T := setRow_heap w b old cs T (0, 0) h
theorem Blk.otherRow {w : World} {b g : Nat} {cs new : Array Value} {T : TypeId} (h : Blk w b cs T) (hne : b ≠ g) : Blk (w.setRow g new) b cs T := by
  unfold Blk at *
  rw [setRow_other w g b new hne]
  exact h
theorem Grew.setRow {W w : World} (h : Grew W w) {b : Nat} (hb : W.heap.size ≤ b) (cs : Array Value) : Grew W (w.setRow b cs) :=
  ⟨h.os, h.tape, h.output, by rw [setRow_size]; exact h.size, fun i hi => by rw [setRow_other w b i cs (by omega)]; exact h.block i hi⟩


theorem st_csG {ops : Array Oper} {rest : List Oper} {o : Oper} {a : Act} {w : World} {Q : Exit → Act → World → Prop} (hgd : o.guard = none) (x y : Operand) (ho : o.op = .store 24 x y) (hd : o.dst = none) {g : Nat} (c : Nat → Int) {old : Array Value} {T : TypeId}
    (k : Blk w g old T) (hold : old.size = 17) (hx : a.eval x = .pointer (some ⟨g, 0, none⟩)) (hy : a.eval y = csV c) {W : World} (hg : Grew W w) (hb : W.heap.size ≤ g)
    (h : ∀ w', Blk w' g (csA c) T → Grew W w' → (∀ b cs T, b ≠ g → Blk w b cs T → Blk w' b cs T) → w'.heap.size = w.heap.size → wpList Tryd.prog ops Q rest a w') : wpList Tryd.prog ops Q (o :: rest) a w :=
  st_cs hgd x y ho hd c k hold hx hy (h _ (Blk.setRow k) (hg.setRow hb _) (fun _ _ _ hne hk => hk.otherRow hne) (setRow_size _ _ _))

theorem Blk.new2 (w : World) (cs : Array Value) (T : TypeId) (o : Obj) : Blk ((w.alloc (.cells cs T)).alloc o) w.heap.size cs T := (Blk.new w cs T _ rfl).alloc o
theorem Blk.new2b (w : World) (o : Obj) (cs : Array Value) (T : TypeId) : Blk ((w.alloc o).alloc (.cells cs T)) (w.heap.size + 1) cs T := Blk.new _ cs T _ (by simp)


theorem upd_at (c : Nat → Int) (i : Nat) (v : Int) (j : Nat) : upd c i v j = if j = i then v else c j := rfl
theorem upd_upd (c : Nat → Int) (i : Nat) (a b : Int) : upd (upd c i a) i b = upd c i b := by
  funext j
  unfold upd
  by_cases h : j = i
  · rw [if_pos h, if_pos h]
  · rw [if_neg h, if_neg h, if_neg h]
theorem upd_same {c : Nat → Int} {i : Nat} {v : Int} (h : v = c i) : upd c i v = c := by
  funext j
  unfold upd
  by_cases hj : j = i
  · rw [if_pos hj, h, hj]
  · rw [if_neg hj]
theorem lw_cs {ops : Array Oper} {rest : List Oper} {o : Oper} {a : Act} {w : World} {Q : Exit → Act → World → Prop} (hw : Region.wanted o (yielded ops a.tmps) = true) (x : Operand) (ho : o.op = .load 24 x) (d : Option Tmp) (hd : o.dst = d) {g : Nat} {c : Nat → Int} {T : TypeId}
    (k : Blk w g (csA c) T) (hx : a.eval x = .pointer (some ⟨g, 0, none⟩)) (h : wpList Tryd.prog ops Q rest (a.put d (csV c)) w) : wpList Tryd.prog ops Q (o :: rest) a w := by
  subst hd
  exact BigFrame.wpList_want hw fun K hK => wp_load_row _ x ho g hx T (csA c) (0, 0) _ k Tryd.underlying24 rfl csInfo (hK _ _ h)
theorem results_cs {fn : Func} {p q : Tmp} (h : fn.results = #[.cell p 24, .tmp q]) (tmps : Array Value) (w : World) (g : Nat) {c : Nat → Int} {T : TypeId} (k : Blk w g (csA c) T)
    (hp : tmps.getD p undef = .pointer (some ⟨g, 0, none⟩)) : (results fn tmps).run Tryd.prog w = .ok (.tuple #[csV c, tmps.getD q undef]) w := by
  have hp' : tmps[p]?.getD undef = .pointer (some ⟨g, 0, none⟩) := by simpa using hp
  simp [results, h, hp', asAddr, var_cs k]
theorem Blk.new3 (w : World) (o1 o2 : Obj) (cs : Array Value) (T : TypeId) : Blk (((w.alloc o1).alloc o2).alloc (.cells cs T)) (w.heap.size + 2) cs T := Blk.new _ cs T _ (by simp)
theorem Blk.new3b (w : World) (o1 : Obj) (cs : Array Value) (T : TypeId) (o2 : Obj) : Blk (((w.alloc o1).alloc (.cells cs T)).alloc o2) (w.heap.size + 1) cs T := (Blk.new2b w o1 cs T).alloc o2
theorem Blk.new3a (w : World) (cs : Array Value) (T : TypeId) (o1 o2 : Obj) : Blk (((w.alloc (.cells cs T)).alloc o1).alloc o2) w.heap.size cs T := (Blk.new2 w cs T o1).alloc o2
/-- A whole load in a region that only reads. -/
theorem lq_cs {ops : Array Oper} {C : World → Prop} {Q : Act → Prop} {rest : List Oper} {o : Oper} {a : Act} (hw : Region.wanted o (yielded ops a.tmps) = true) (x : Operand) (ho : o.op = .load 24 x) (d : Option Tmp) (hd : o.dst = d) {g : Nat} {c : Nat → Int} {T : TypeId}
    (k : ∀ w, C w → Blk w g (csA c) T) (hx : a.eval x = .pointer (some ⟨g, 0, none⟩)) (h : wpQuiet Tryd.prog ops C Q rest (a.put d (csV c))) : wpQuiet Tryd.prog ops C Q (o :: rest) a := by
  subst hd
  refine BigFrame.wpQuiet_want hw fun K hK => ⟨csV c, fun w hw => ?_, hK _ h⟩
  unfold Oper.quietAt execOp
  simp only [ho, hx, Instr.loadAt, Instr.sureAddr, Sem.run_bind, Sem.run_pure, Result.andThen_ok, var_cs (k w hw)]
  exact ⟨rfl, rfl⟩
theorem quiet_eq {P : Program} {f : FuncId} {args : Array Value} {w : World} {n : Nat} {v : Value}
    (h : Calls P f args (w.drewN n) fun e w' => e = .returned v ∧ w.drewN n = w') : Calls P f args (w.drewN n) fun e w'' => e = .returned v ∧ ∃ m, w'' = w.drewN m :=
  h.mono fun _ _ ⟨he, hm⟩ => ⟨he, n, hm.symm⟩
end Go.Proofs.YtbkbbcfhmjodlaaDoor
