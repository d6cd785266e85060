/-
  Values that read as data, however deep: numbers, truths, texts, rows of rows (Dc, RdC); a row of the call's own (OwnD); cuts, append, literals, stores: once, for every type. For every later stage with rows of structs, or of rows.
-/
import Derived.Test.YtnafdgpkofffaaaDoorGrew
import Derived.Test.YtnafdgpkofffaaaDoorTrn
import Derived.WalkKit
import Derived.OwnWalk
import Derived.Laws.OwnMore
import Derived.Laws.CopyOwn
import Derived.Deep.RegionLaw
import Derived.Laws.Slices
import Derived.Lib.Hide
import Derived.Maps.AppendAt
set_option maxRecDepth 4000
set_option linter.unusedVariables false
set_option linter.unusedSimpArgs false
namespace Go.Proofs.YtnafdgpkofffaaaDoor
open Go Go.RowKit

/-- A cell's datum. -/
inductive Dc where
  | int (k : IntKind) (x : Int)
  | bool (x : Bool)
  | str (s : ByteArray)
  | row (sz : Nat) (xs : List (List Dc))
/-- v reads as d in w, through no block of av. -/
inductive RdC (w : World) (av : Nat → Prop) : Dc → Value → Prop where
  | int (k : IntKind) (x : Int) : RdC w av (.int k x) (.int k x)
  | bool (x : Bool) : RdC w av (.bool x) (.bool x)
  | str (s : ByteArray) : RdC w av (.str s) (.string s)
  | nil (sz : Nat) (a : Option Addr) (c : Nat) : RdC w av (.row sz []) (.slice a 0 c)
  | row {sz : Nat} {xs : List (List Dc)} {b off c : Nat} (us : List Value) (hne : xs ≠ []) (hc : xs.length ≤ c) (hav : ¬ av b) (hb : b < w.heap.size) (hw : ∀ e ∈ xs, e.length = sz) (hl : us.length = xs.flatten.length)
      (hcell : ∀ (j : Nat) (u : Value), us[j]? = some u → w.cell? ⟨b, off + j, none⟩ = some u) (hr : ∀ (j : Nat) (d : Dc) (u : Value), xs.flatten[j]? = some d → us[j]? = some u → RdC w av d u) : RdC w av (.row sz xs) (.slice (some ⟨b, off, none⟩) xs.length c)
def noAv : Nat → Prop := fun _ => False
theorem flat_len {α : Type} {sz : Nat} : ∀ {xs : List (List α)}, (∀ e ∈ xs, e.length = sz) → xs.flatten.length = xs.length * sz
  | [], _ => by simp
  | x :: r, h => by
    have ih := flat_len (xs := r) (fun e he => h e (List.mem_cons_of_mem _ he))
    rw [List.flatten_cons, List.length_append, ih, h x (by simp), List.length_cons, Nat.add_mul, Nat.one_mul, Nat.add_comm]
theorem flat_get {α : Type} {sz : Nat} : ∀ {xs : List (List α)} {i j : Nat} {e : List α}, (∀ e ∈ xs, e.length = sz) → xs[i]? = some e → j < sz → xs.flatten[i * sz + j]? = e[j]?
  | [], _, _, _, _, h, _ => by simp at h
  | x :: r, 0, j, e, hw, h, hj => by
    obtain rfl : x = e := by simpa using h
    rw [List.flatten_cons, Nat.zero_mul, Nat.zero_add, List.getElem?_append_left (by rw [hw x (by simp)]; exact hj)]
  | x :: r, i + 1, j, e, hw, h, hj => by
    have hx := hw x (by simp)
    rw [List.flatten_cons, List.getElem?_append_right (by rw [hx, Nat.add_mul]; omega), hx, show (i + 1) * sz + j - sz = i * sz + j by rw [Nat.add_mul]; omega]
    exact flat_get (fun e he => hw e (List.mem_cons_of_mem _ he)) (by simpa using h) hj
theorem flat_take {α : Type} {sz : Nat} : ∀ {xs : List (List α)} (n : Nat), (∀ e ∈ xs, e.length = sz) → (xs.take n).flatten = xs.flatten.take (n * sz)
  | [], n, _ => by simp
  | x :: r, 0, _ => by simp
  | x :: r, n + 1, h => by
    have hx := h x (by simp)
    rw [List.take_succ_cons, List.flatten_cons, List.flatten_cons, flat_take n (fun e he => h e (List.mem_cons_of_mem _ he)), Nat.add_mul, Nat.one_mul, List.take_append, hx, Nat.add_sub_cancel, List.take_of_length_le (show x.length ≤ n * sz + sz by omega)]
theorem flat_drop {α : Type} {sz : Nat} : ∀ {xs : List (List α)} (n : Nat), (∀ e ∈ xs, e.length = sz) → (xs.drop n).flatten = xs.flatten.drop (n * sz)
  | [], n, _ => by simp
  | x :: r, 0, _ => by simp
  | x :: r, n + 1, h => by
    have hx := h x (by simp)
    rw [List.drop_succ_cons, List.flatten_cons, flat_drop n (fun e he => h e (List.mem_cons_of_mem _ he)), Nat.add_mul, Nat.one_mul, List.drop_append, hx, Nat.add_sub_cancel, List.drop_eq_nil_of_le (show x.length ≤ n * sz + sz by omega), List.nil_append]
section
variable {w w' : World} {av av' : Nat → Prop} {d : Dc} {v : Value}
theorem RdC.kept (h : RdC w av d v) (hsz : w.heap.size ≤ w'.heap.size) (hk : ∀ k, k < w.heap.size → ¬ av k → w'.heap[k]? = w.heap[k]?) : RdC w' av d v := by
  induction h with
  | int k x => exact .int k x
  | bool x => exact .bool x
  | str s => exact .str s
  | nil sz a c => exact .nil sz a c
  | row us hne hc hav hb hw hl hcell _ ih => exact .row us hne hc hav (Nat.lt_of_lt_of_le hb hsz) hw hl (fun j u hj => by rw [← hcell j u hj]; exact World.cell?_of_block (w := w) (hk _ hb hav)) ih
theorem RdC.grew (h : RdC w av d v) (g : Grew w w') : RdC w' av d v := h.kept g.size fun k hk _ => g.block k hk
theorem RdC.mono (h : RdC w av d v) (ha : ∀ k, k < w.heap.size → av' k → av k) : RdC w av' d v := by
  induction h with
  | int k x => exact .int k x
  | bool x => exact .bool x
  | str s => exact .str s
  | nil sz a c => exact .nil sz a c
  | row us hne hc hav hb hw hl hcell _ ih => exact .row us hne hc (fun h => hav (ha _ hb h)) hb hw hl hcell ih
theorem RdC.one (h : RdC w av d v) : v.oneCell' = true := by cases h <;> rfl
theorem RdC.plain (h : RdC w av d v) : RdC w noAv d v := h.mono fun _ _ h => h.elim
theorem RdC.drew (h : RdC w av d v) : RdC w.drew av d v := h.grew ((Grew.refl w).drew1)
/-- What a row's datum says of the value. -/
theorem RdC.shape {sz : Nat} {xs : List (List Dc)} (h : RdC w av (.row sz xs) v) : ∃ a c, v = .slice a xs.length c ∧ (xs ≠ [] → xs.length ≤ c ∧ (∀ e ∈ xs, e.length = sz) ∧ ∃ (b off : Nat) (us : List Value), a = some ⟨b, off, none⟩ ∧ ¬ av b ∧ b < w.heap.size ∧ us.length = xs.flatten.length ∧ (∀ (j : Nat) (u : Value), us[j]? = some u → w.cell? ⟨b, off + j, none⟩ = some u) ∧ ∀ (j : Nat) (d : Dc) (u : Value), xs.flatten[j]? = some d → us[j]? = some u → RdC w av d u) := by
  cases h with
  | nil sz a c => exact ⟨a, c, rfl, fun h => absurd rfl h⟩
  | row us hne hc hav hb hw hl hcell hr => exact ⟨_, _, rfl, fun _ => ⟨hc, hw, _, _, us, rfl, hav, hb, hl, hcell, hr⟩⟩
/-- Element i of a row: its cells. -/
theorem RdC.elem {sz : Nat} {xs : List (List Dc)} {a : Option Addr} {n c : Nat} (h : RdC w av (.row sz xs) (.slice a n c)) : n = xs.length ∧ (xs ≠ [] → ∃ b off : Nat, a = some ⟨b, off, none⟩ ∧ b < w.heap.size ∧ ¬ av b ∧ ∀ (i : Nat) (e : List Dc), xs[i]? = some e → ∃ us : List Value, us.length = sz ∧ e.length = sz ∧ (∀ (j : Nat) (u : Value), us[j]? = some u → w.cell? ⟨b, off + (i * sz + j), none⟩ = some u) ∧ ∀ (j : Nat) (d : Dc) (u : Value), e[j]? = some d → us[j]? = some u → RdC w av d u) := by
  obtain ⟨a', c', e, hx⟩ := h.shape
  simp only [Value.slice.injEq] at e
  obtain ⟨rfl, rfl, rfl⟩ := e
  refine ⟨rfl, fun hne => ?_⟩
  obtain ⟨_, hw, b, off, us, rfl, hav, hb, hl, hcell, hr⟩ := hx hne
  refine ⟨b, off, rfl, hb, hav, fun i e hi => ?_⟩
  have he := hw e (List.mem_of_getElem? hi)
  have hlen : xs.flatten.length = xs.length * sz := flat_len hw
  have hi' := (List.getElem?_eq_some_iff.1 hi).1
  have hle : i * sz + sz ≤ xs.length * sz := by have := Nat.mul_le_mul_right sz (show i + 1 ≤ xs.length by omega); rw [Nat.add_mul, Nat.one_mul] at this; exact this
  refine ⟨(us.drop (i * sz)).take sz, by rw [List.length_take, List.length_drop, hl, hlen]; omega, he, fun j u hj => ?_, fun j d u hd hj => ?_⟩
  · have hj' : j < sz := by have := (List.getElem?_eq_some_iff.1 hj).1; rw [List.length_take] at this; omega
    rw [List.getElem?_take_of_lt hj', List.getElem?_drop] at hj
    exact hcell _ u hj
  · have hj' : j < sz := by have := (List.getElem?_eq_some_iff.1 hj).1; rw [List.length_take] at this; omega
    rw [List.getElem?_take_of_lt hj', List.getElem?_drop] at hj
    refine hr (i * sz + j) d u ?_ hj
    rw [flat_get hw hi hj']
    exact hd
end
end Go.Proofs.YtnafdgpkofffaaaDoor
