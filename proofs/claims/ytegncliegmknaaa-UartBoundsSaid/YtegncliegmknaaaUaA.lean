/-
  Package uart: a line as two lists and two numbers (US, Ua, Uar); contracts of its small functions: isRegister, waits, state, and of bytes.Clone.
-/
import Derived.Test.YtegncliegmknaaaRows
import Derived.Test.YtegncliegmknaaaBuf
import Derived.Test.YtegncliegmknaaaClass
import Derived.WalkKit
import Derived.Outline
import Derived.Handy
import Derived.Deep.QuietTactic
import Derived.BigQuiet
import Derived.Deep.RegionHeld3
import Derived.Deep.DeepCutAuto
import Derived.Lib.SliceRun
set_option linter.unusedVariables false
set_option linter.unusedSimpArgs false
namespace Go.Proofs.Ytegncliegmknaaa
open Go.RowKit

def intI (x : Int) : Prop := -9223372036854775808 ≤ x ∧ x ≤ 9223372036854775807
/-- A line, its bytes as lists. -/
structure US where
  i : List Int
  o : List Int
  ie : Int
  lost : Int
abbrev uaV (s : US) (a1 : Option Addr) (c1 : Nat) (a2 : Option Addr) (c2 : Nat) : Value := .agg #[.slice a1 s.i.length c1, .slice a2 s.o.length c2, .int .i64 s.ie, .int .i64 s.lost]
/-- v reads as s. -/
structure Ua (w : World) (v : Value) (s : US) : Prop where
  shape : ∃ u1 u2, v = .agg #[u1, u2, .int .i64 s.ie, .int .i64 s.lost] ∧ Buf w u1 s.i ∧ Buf w u2 s.o
  ie : intI s.ie
  lost : intI s.lost
theorem Ua.grew {w w' : World} {v : Value} {s : US} (h : Ua w v s) (g : Grew w w') : Ua w' v s := by
  obtain ⟨u1, u2, rfl, h1, h2⟩ := h.shape
  exact ⟨⟨u1, u2, rfl, h1.grew g, h2.grew g⟩, h.ie, h.lost⟩
theorem Ua.shaped {w : World} {v : Value} {s : US} (h : Ua w v s) : ∃ a1 c1 a2 c2, v = uaV s a1 c1 a2 c2 := by
  obtain ⟨u1, u2, rfl, h1, h2⟩ := h.shape
  obtain ⟨a1, c1, rfl, _, _⟩ := h1.shape
  obtain ⟨a2, c2, rfl, _, _⟩ := h2.shape
  exact ⟨a1, c1, a2, c2, rfl⟩
theorem Ua.i {w : World} {s : US} {a1 : Option Addr} {c1 : Nat} {a2 : Option Addr} {c2 : Nat} (h : Ua w (uaV s a1 c1 a2 c2) s) : Buf w (.slice a1 s.i.length c1) s.i := by
  obtain ⟨u1, u2, e, h1, h2⟩ := h.shape
  cases e
  exact h1
theorem Ua.o {w : World} {s : US} {a1 : Option Addr} {c1 : Nat} {a2 : Option Addr} {c2 : Nat} (h : Ua w (uaV s a1 c1 a2 c2) s) : Buf w (.slice a2 s.o.length c2) s.o := by
  obtain ⟨u1, u2, e, h1, h2⟩ := h.shape
  cases e
  exact h2
/-- v reads as s, its rows made since B. -/
structure Uar (w : World) (B : Nat) (v : Value) (s : US) : Prop where
  shape : ∃ u1 u2, v = .agg #[u1, u2, .int .i64 s.ie, .int .i64 s.lost] ∧ Row w B u1 s.i ∧ Row w B u2 s.o
  i : AreBytes s.i
  o : AreBytes s.o
  ie : intI s.ie
  lost : intI s.lost
theorem Uar.ua {w : World} {B : Nat} {v : Value} {s : US} (h : Uar w B v s) : Ua w v s := by
  obtain ⟨u1, u2, rfl, h1, h2⟩ := h.shape
  exact ⟨⟨u1, u2, rfl, h1.buf h.i, h2.buf h.o⟩, h.ie, h.lost⟩
theorem Uar.grew {w w' : World} {B : Nat} {v : Value} {s : US} (h : Uar w B v s) (g : Grew w w') : Uar w' B v s := by
  obtain ⟨u1, u2, rfl, h1, h2⟩ := h.shape
  exact ⟨⟨u1, u2, rfl, h1.grew g, h2.grew g⟩, h.i, h.o, h.ie, h.lost⟩
theorem Uar.low {w : World} {B B' : Nat} {v : Value} {s : US} (h : Uar w B v s) (hb : B' ≤ B) : Uar w B' v s := by
  obtain ⟨u1, u2, rfl, h1, h2⟩ := h.shape
  exact ⟨⟨u1, u2, rfl, h1.low hb, h2.low hb⟩, h.i, h.o, h.ie, h.lost⟩
theorem Uar.set {w : World} {B c o : Nat} {v : Value} {s : US} (h : Uar w B v s) (hc : c < B) (u : Value) : Uar (w.setCell ⟨c, o, none⟩ u) B v s := by
  obtain ⟨u1, u2, rfl, h1, h2⟩ := h.shape
  exact ⟨⟨u1, u2, rfl, h1.set hc u, h2.set hc u⟩, h.i, h.o, h.ie, h.lost⟩
/-- A row stays, whatever is written into a box of another type. -/
theorem Row.box {w : World} {b X o : Nat} {v : Value} {xs : List Int} {cs : Array Value} {T : TypeId} (h : Row w b v xs) (hX : Blk w X cs T) (hT : T ≠ 5) (u : Value) : Row (w.setCell ⟨X, o, none⟩ u) b v xs := by
  refine ⟨h.1, ?_⟩
  rcases h.2 with h | ⟨b', cap, cur, e, hg, hh, r⟩
  · exact .inl h
  · refine .inr ⟨b', cap, cur, e, hg, ?_, r⟩
    have hne : b' ≠ X := by
      rintro rfl
      unfold Blk at hX
      rw [hX] at hh
      simp only [Option.some.injEq, Obj.cells.injEq] at hh
      exact hT hh.2.1
    rw [Below.heap_setCell w ⟨X, o, none⟩ u b' hne]
    exact hh
theorem Uar.box {w : World} {B X o : Nat} {v : Value} {s : US} {cs : Array Value} {T : TypeId} (h : Uar w B v s) (hX : Blk w X cs T) (hT : T ≠ 5) (u : Value) : Uar (w.setCell ⟨X, o, none⟩ u) B v s := by
  obtain ⟨u1, u2, rfl, h1, h2⟩ := h.shape
  exact ⟨⟨u1, u2, rfl, h1.box hX hT u, h2.box hX hT u⟩, h.i, h.o, h.ie, h.lost⟩

theorem isRegister_c (off size : Int) (w : World) : Calls Try.prog 15 #[.int .u64 off, .int .i64 size] w fun e w' => e = .returned (.bool (decide (off < 8) && (size == 1))) ∧ w = w' := by
  cases h0 : decide (off < 8) <;> cases h1 : (size == 1)
  all_goals
    go_enter Try.func15, Try.ntmps15
    go_wp2_with fail
    go_ret
    exact ⟨rfl, rfl⟩
theorem waits_c (s : US) (a1 : Option Addr) (c1 : Nat) (a2 : Option Addr) (c2 : Nat) (w : World) : Calls Try.prog 16 #[uaV s a1 c1 a2 c2] w fun e w' => e = .returned (.bool (decide (0 < s.i.length))) ∧ Grew w w' := by
  generalize hn : s.i.length = n
  unfold uaV
  rw [hn]
  cases h0 : decide (0 < n)
  all_goals
    have h1 : decide ((0 : Int) < (n : Int)) = decide (0 < n) := by simp
    rw [h0] at h1
    go_enter Try.func16, Try.ntmps16
    go_wp2_with fail
    go_ret
    exact ⟨rfl, (Grew.refl w).alloc _⟩
theorem state_c (s : US) (a1 : Option Addr) (c1 : Nat) (a2 : Option Addr) (c2 : Nat) (w : World) : Calls Try.prog 17 #[uaV s a1 c1 a2 c2] w fun e w' => e = .returned (.int .u64 (if 0 < s.i.length then 97 else 96)) ∧ Grew w w' := by
  have hW := Lib.hid (waits_c s a1 c1 a2 c2)
  by_cases h0 : 0 < s.i.length
  · rw [if_pos h0]
    rw [decide_eq_true h0] at hW
    clear h0
    go_enter Try.func17, Try.ntmps17
    go_wp2_with fail
    refine (hW.out _).mono ?_
    rintro e w' ⟨rfl, g⟩
    go_wp2_with fail
    go_ret
    exact ⟨rfl, ((Grew.refl w).alloc _).trans g⟩
  · rw [if_neg h0]
    rw [decide_eq_false h0] at hW
    clear h0
    go_enter Try.func17, Try.ntmps17
    go_wp2_with fail
    refine (hW.out _).mono ?_
    rintro e w' ⟨rfl, g⟩
    go_wp2_with fail
    go_ret
    exact ⟨rfl, ((Grew.refl w).alloc _).trans g⟩

theorem clone_c {v : Value} {xs : List Int} (hl : xs.length ≤ 140737488355328) {w : World} (hb : Buf w v xs) :
    Calls Try.prog 18 #[v] w fun e w' => ∃ a c, e = .returned (.slice a xs.length c) ∧ Hid (Row w' w.heap.size (.slice a xs.length c) xs) ∧ Grew w w' := by
  obtain ⟨a, c, rfl, hc, ha⟩ := hb.shape
  have HB := Lib.hid hb
  rcases a with _ | ad
  · have hnil := fun w => Lib.run_eql_slice_nil (P := Try.prog) w 24 5 none 0 c 0 0 Try.underlying24
    have hx : xs = [] := by
      by_cases h : xs = []
      · exact h
      · obtain ⟨_, _, e, _⟩ := ha h
        cases e
    subst hx
    clear hb ha hc
    go_enter Try.func18, Try.ntmps18
    go_wp2_with fail
    go_ret
    exact ⟨none, 0, rfl, Lib.hid (Row.nil _ _), Grew.refl _⟩
  · have hnil := fun w => Lib.run_eql_slice_nil (P := Try.prog) w 24 5 (some ad) xs.length c 0 0 Try.underlying24
    clear ha hb
    go_enter Try.func18, Try.ntmps18
    go_wp2_with (refine wpList_append_b (W := w) rfl (.tmp 5) (.tmp 6) rfl (by exact (Grew.refl w).alloc _) (Row.lit w w.heap.size (Nat.le_refl _) #[] [] rfl (Nat.zero_le _) _ rfl 0 rfl) (HB.out.grew ((Grew.refl w).alloc _)) (by rfl) (by rfl) (by simpa using hl) ?_; intro v1 w1 HR1 g1 q1; clear q1; have HB1 := Lib.hid (HR1.out.buf HB.out.ok); obtain ⟨ao, co, eo, _, _⟩ := HB1.out.shape; subst eo)
    go_ret
    exact ⟨_, _, rfl, Lib.hid HR1.out, g1⟩
end Go.Proofs.Ytegncliegmknaaa
