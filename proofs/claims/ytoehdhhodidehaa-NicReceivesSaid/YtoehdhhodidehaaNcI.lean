/-
  Package nic: rings and descriptors loaded and stored whole; memory of its own (Clone, ownRam).
-/
import Derived.Test.YtoehdhhodidehaaRows
import Derived.Test.YtoehdhhodidehaaNcG
import Derived.Test.YtoehdhhodidehaaNcH
import Derived.Test.YtoehdhhodidehaaNcD
import Derived.WalkKit
import Derived.Outline
import Derived.Handy
import Derived.StillTailTactics
import Derived.Deep.QuietTactic
import Derived.BigQuiet
import Derived.Deep.DeepCutAuto
import Derived.Deep.RegionHeld3
import Derived.Great.BuildSlice
import Derived.Deep.WholeRow
import Derived.Lib.SliceRun
import Derived.BigFrame
set_option maxRecDepth 4000
set_option linter.unusedVariables false
set_option linter.unusedSimpArgs false
namespace Go.Proofs.Ytoehdhhodidehaa
open Go.RowKit

theorem riInfo : (Try.prog.info? 82).map (·.size) = some 5 := by kernel_rfl
theorem st_ri {ops : Array Oper} {rest : List Oper} {o : Oper} {a : Act} {w : World} {Q : Exit → Act → World → Prop} (hgd : o.guard = none) (x y : Operand) (ho : o.op = .store 82 x y) (hd : o.dst = none) {g : Nat} (cs : Array Value) (h5 : cs.size = 5) (h1 : (cs.all fun x => x.oneCell') = true) {old : Array Value} {T : TypeId}
    (k : Blk w g old T) (hold : old.size = 5) (hx : a.eval x = .pointer (some ⟨g, 0, none⟩)) (hy : a.eval y = .agg cs)
    (h : ∀ w', Blk w' g cs T → Only w w' g → wpList Try.prog ops Q rest a w') : wpList Try.prog ops Q (o :: rest) a w :=
  wpList_store_rowTo hgd _ x y ho hd g cs hx hy T old k (by rw [h5]; exact riInfo) (by rw [hold, h5]) h1 (h _ (Blk.setRow k) (Only.setRow _ _ _))
theorem ld_ri {ops : Array Oper} {rest : List Oper} {o : Oper} {a : Act} {w : World} {Q : Exit → Act → World → Prop} (hgd : o.guard = none) (x : Operand) (ho : o.op = .load 82 x) (d : Option Tmp) (hd : o.dst = d) {g : Nat} {cs : Array Value} (h5 : cs.size = 5) {T : TypeId}
    (k : Blk w g cs T) (hx : a.eval x = .pointer (some ⟨g, 0, none⟩)) (h : wpList Try.prog ops Q rest (a.put d (.agg cs)) w) : wpList Try.prog ops Q (o :: rest) a w := by
  subst hd
  exact wpList_load_row hgd _ x ho g hx T cs (0, 0) _ k Try.underlying82 rfl (by rw [h5]; exact riInfo) h
theorem lw_ri {ops : Array Oper} {rest : List Oper} {o : Oper} {a : Act} {w : World} {Q : Exit → Act → World → Prop} (hw : Region.wanted o (yielded ops a.tmps) = true) (x : Operand) (ho : o.op = .load 82 x) (d : Option Tmp) (hd : o.dst = d) {g : Nat} {cs : Array Value} (h5 : cs.size = 5) {T : TypeId}
    (k : Blk w g cs T) (hx : a.eval x = .pointer (some ⟨g, 0, none⟩)) (h : wpList Try.prog ops Q rest (a.put d (.agg cs)) w) : wpList Try.prog ops Q (o :: rest) a w := by
  subst hd
  exact BigFrame.wpList_want hw fun K hK => wp_load_row _ x ho g hx T cs (0, 0) _ k Try.underlying82 rfl (by rw [h5]; exact riInfo) (hK _ _ h)
theorem lw_ds {ops : Array Oper} {rest : List Oper} {o : Oper} {a : Act} {w : World} {Q : Exit → Act → World → Prop} (hw : Region.wanted o (yielded ops a.tmps) = true) (x : Operand) (ho : o.op = .load 86 x) (d : Option Tmp) (hd : o.dst = d) {g : Nat} {xs : List Int} {T : TypeId} (hl : xs.length = 16)
    (k : Blk w g (dsA xs) T) (hx : a.eval x = .pointer (some ⟨g, 0, none⟩)) (h : wpList Try.prog ops Q rest (a.put d (.agg (dsA xs))) w) : wpList Try.prog ops Q (o :: rest) a w := by
  subst hd
  exact BigFrame.wpList_want hw fun K hK => wp_load_row _ x ho g hx T (dsA xs) (0, 0) _ k Try.underlying86 rfl (by rw [dsA_size, hl]; exact dsInfo) (hK _ _ h)
theorem rgVt_one : (rgVt.all fun x => x.oneCell') = true := by simp [rgVt, Value.oneCell']
theorem rgVr_one : (rgVr.all fun x => x.oneCell') = true := by simp [rgVr, Value.oneCell']
theorem var_ri {w : World} {g : Nat} {cs : Array Value} (h5 : cs.size = 5) {T : TypeId} (k : Blk w g cs T) : (loadVar 82 ⟨g, 0, none⟩).run Try.prog w = .ok (.agg cs) w :=
  run_loadVar_row w g T _ cs (0, 0) _ k Try.underlying82 rfl (by rw [h5]; exact riInfo)
theorem yl_ds {ops : Array Oper} {S : World → Prop} {o : Oper} {a : Act} {x : Operand} {g : Nat} {xs : List Int} {T : TypeId} (hl : xs.length = 16) (ho : o.op = .load 86 x) (hw : Region.wanted o (yielded ops a.tmps) = true) (hx : a.eval x = .pointer (some ⟨g, 0, none⟩)) (k : ∀ w, S w → Blk w g (dsA xs) T) :
    YieldsIf Try.prog ops S o (.agg (dsA xs)) a := by
  refine Or.inl ⟨hw, fun w hSw => ?_⟩
  unfold execOp
  simp only [ho, hx, Instr.loadAt, Instr.sureAddr, Sem.run_bind, Sem.run_pure, Result.andThen_ok, var_ds hl (k w hSw)]
theorem yl_ri {ops : Array Oper} {S : World → Prop} {o : Oper} {a : Act} {x : Operand} {g : Nat} {cs : Array Value} {T : TypeId} (h5 : cs.size = 5) (ho : o.op = .load 82 x) (hw : Region.wanted o (yielded ops a.tmps) = true) (hx : a.eval x = .pointer (some ⟨g, 0, none⟩)) (k : ∀ w, S w → Blk w g cs T) :
    YieldsIf Try.prog ops S o (.agg cs) a := by
  refine Or.inl ⟨hw, fun w hSw => ?_⟩
  unfold execOp
  simp only [ho, hx, Instr.loadAt, Instr.sureAddr, Sem.run_bind, Sem.run_pure, Result.andThen_ok, var_ri h5 (k w hSw)]
theorem yl_nc {ops : Array Oper} {S : World → Prop} {o : Oper} {a : Act} {x : Operand} {g : Nat} {c : Nat → Int} {u : Value} {T : TypeId} (ho : o.op = .load 25 x) (hw : Region.wanted o (yielded ops a.tmps) = true) (hx : a.eval x = .pointer (some ⟨g, 0, none⟩)) (k : ∀ w, S w → Blk w g (ncA c u) T) :
    YieldsIf Try.prog ops S o (ncV c u) a := by
  refine Or.inl ⟨hw, fun w hSw => ?_⟩
  unfold execOp
  simp only [ho, hx, Instr.loadAt, Instr.sureAddr, Sem.run_bind, Sem.run_pure, Result.andThen_ok, var_nc (k w hSw)]
/-! ### Memory of its own -/
theorem Clone_c {v : Value} {xs : List Int} (hl : xs.length ≤ 140737488355328) {w : World} (hb : Buf w v xs) :
    Calls Try.prog 43 #[v] w fun e w' => ∃ a c, e = .returned (.slice a xs.length c) ∧ Hid (Row w' w.heap.size (.slice a xs.length c) xs) ∧ Grew w w' := by
  obtain ⟨a, c, rfl, hc, ha⟩ := hb.shape
  have HB := Lib.hid hb
  rcases a with _ | ad
  · have hnil := fun w => Lib.run_eql_slice_nil (P := Try.prog) w 23 5 none 0 c 0 0 Try.underlying23
    have hx : xs = [] := by
      by_cases h : xs = []
      · exact h
      · obtain ⟨_, _, e, _⟩ := ha h
        cases e
    subst hx
    clear hb ha hc
    go_enter Try.func43, Try.ntmps43
    go_wp2_with fail
    go_ret
    exact ⟨none, 0, rfl, Lib.hid (Row.nil _ _), Grew.refl _⟩
  · have hnil := fun w => Lib.run_eql_slice_nil (P := Try.prog) w 23 5 (some ad) xs.length c 0 0 Try.underlying23
    clear ha hb
    go_enter Try.func43, Try.ntmps43
    go_wp2_with (refine wpList_append_b (W := w) rfl (.tmp 5) (.tmp 6) rfl (by exact (Grew.refl w).alloc _) (Row.lit w w.heap.size (Nat.le_refl _) #[] [] rfl (Nat.zero_le _) _ rfl 0 rfl) (HB.out.grew ((Grew.refl w).alloc _)) (by rfl) (by rfl) (by simpa using hl) ?_; intro v1 w1 HR1 g1 q1; clear q1; have HB1 := Lib.hid (HR1.out.buf HB.out.ok); obtain ⟨ao, co, eo, _, _⟩ := HB1.out.shape; subst eo)
    go_ret
    exact ⟨_, _, rfl, Lib.hid HR1.out, g1⟩
theorem ownRam_c {a : Option Addr} {n k : Nat} {xs : List Int} (hl : xs.length ≤ 140737488355328) {w : World} (hb : Buf w (.slice a n k) xs) : Calls Try.prog 34 #[.agg #[.slice a n k]] w fun e w' => ∃ b m, e = .returned (.agg #[.slice b xs.length m]) ∧ Hid (Row w' w.heap.size (.slice b xs.length m) xs) ∧ Grew w w' := by
  have HB := Lib.hid hb
  have HC := Lib.hid (fun (w : World) (h : Buf w (.slice a n k) xs) => Clone_c hl h)
  clear hb hl
  go_enter Try.func34, Try.ntmps34
  go_upto_region 1 with fail
  have kM : Blk ((w.alloc (.cells #[.slice a n k] 27)).alloc (.cells #[.slice none 0 0] 27)) w.heap.size #[.slice a n k] 27 := (Blk.new w #[.slice a n k] 27 _ rfl).alloc (.cells #[.slice none 0 0] 27)
  have kR : Blk ((w.alloc (.cells #[.slice a n k] 27)).alloc (.cells #[.slice none 0 0] 27)) (w.heap.size + 1) #[.slice none 0 0] 27 := Blk.new (w.alloc (.cells #[.slice a n k] 27)) #[.slice none 0 0] 27 _ (by simp)
  have g0 : Grew w ((w.alloc (.cells #[.slice a n k] 27)).alloc (.cells #[.slice none 0 0] 27)) := ((Grew.refl w).alloc (.cells #[.slice a n k] 27)).alloc (.cells #[.slice none 0 0] 27)
  generalize ((w.alloc (.cells #[.slice a n k] 27)).alloc (.cells #[.slice none 0 0] 27)) = w0 at *
  have lM : w.heap.size ≤ w.heap.size := by omega
  have lR : w.heap.size ≤ (w.heap.size + 1) := by omega
  have nMR : w.heap.size ≠ (w.heap.size + 1) := by omega
  have nRM : (w.heap.size + 1) ≠ w.heap.size := by omega
  generalize (w.heap.size + 1) = R at *
  generalize hZ : w.heap.size = M at *
  have HZ := Lib.hid hZ
  clear hZ
  have LM : Hid (w.heap.size ≤ M) := Lib.hid (by rw [HZ.out]; exact lM)
  have LR : Hid (w.heap.size ≤ R) := Lib.hid (by rw [HZ.out]; exact lR)
  have y0 := kM.cell 0
  have lM1 := kM.lt
  go_wp2_with fail
  refine (HC.out _ (HB.out.grew g0)).mono ?_
  rintro e w1 ⟨b, m, rfl, HR, g1⟩
  have kR1 := kR.grew g1
  have z0 := kR1.cell 0
  have f0 := kR1.free 0
  have lR1 := kR.lt
  go_wp2_with fail
  have hset := (kR1.set (o := 0) (.slice b xs.length m)).cell 0
  have HR2 := Lib.hid ((HR.out.set (c := R) lR1 (o := 0) (.slice b xs.length m)).low g0.size)
  exact bodyPost_ret (v := .agg #[.slice b xs.length m]) (by simp [results, Try.results34, go_sem, hset]) rfl ⟨b, m, rfl, HR2, (g0.trans g1).setCell LR.out _⟩
end Go.Proofs.Ytoehdhhodidehaa
