/-
  Package bus: a board as content (BS) and as the places of its rows (BX); its loads and stores, whole and of a part; slices.Clone; ownDevices, own.
  Package bus: what the functions that are made for a place answer: the stores of all five, the load of memory.
  Package bus: the place of an address (find), Store of all five, Load of memory.
  Package bus: the document's Same of boards; small; bit, sources, Lines.
  Package bus: Lines.
  Package bus: New; what must come at any rate ('heads' of the statements about package bus).
  What must come at any rate ('heads' of the statements about package bus).
  A parameter that is a board, opened.
  Package bus: plain facts: lines told twice, bits of the lines, what memory keeps.
-/
import Derived.Test.YtgcfmijkggpemaaGreatPart
import Derived.Test.YtgcfmijkggpemaaGreatPlD
import Derived.Test.YtgcfmijkggpemaaGreatUaM
import Derived.Test.YtgcfmijkggpemaaGreatNcM
import Derived.Test.YtgcfmijkggpemaaGreatRamC
import Derived.WalkKit
import Derived.Outline
import Derived.Handy
import Derived.Deep.QuietTactic
import Derived.BigQuiet
import Derived.Deep.WholeRow
import Derived.Lib.SliceRun
import Derived.Great.BuildSlice
import Derived.Test.YtgcfmijkggpemaaGreatClE
import Derived.Test.YtgcfmijkggpemaaGreatPlS
import Derived.Test.YtgcfmijkggpemaaGreatPlN
import Derived.Test.YtgcfmijkggpemaaGreatPlU
import Derived.Test.YtgcfmijkggpemaaGreatRamE
import Derived.Test.YtgcfmijkggpemaaGreatClH
import Derived.Test.YtgcfmijkggpemaaGreatClass
import Derived.Test.YtgcfmijkggpemaaGreatDeps
import Derived.Test.YtgcfmijkggpemaaGreatRamL
import Derived.Test.YtgcfmijkggpemaaGreatLaw
import Derived.Deep.Fields
import Derived.ChangeArms
import Derived.SizedLaws
set_option maxRecDepth 4000
set_option linter.unusedVariables false
set_option linter.unusedSimpArgs false
namespace Go.Proofs.YtgcfmijkggpemaaGreat
open Go.RowKit

/-- What a board holds. -/
structure BS where
  r : List Int
  T : Int
  C : Int
  S : Bool
  p : PS
  u : US
  c : Nat → Int
  m : List Int
/-- Where its rows lie. -/
structure BX where
  ra : Option Addr
  rc : Nat
  pa : Option Addr
  pc : Nat
  ea : Option Addr
  ec : Nat
  ta : Option Addr
  tc : Nat
  ia : Option Addr
  ic : Nat
  oa : Option Addr
  oc : Nat
  ma : Option Addr
  mc : Nat

/-- A board's cells. -/
def bdA (x : BX) (s : BS) : Array Value := #[.slice x.ra s.r.length x.rc, .int .u64 s.T, .int .u64 s.C, .bool s.S, .slice x.pa s.p.pr.length x.pc, .int .i64 s.p.n, .int .i64 s.p.k, .slice x.ea s.p.en.length x.ec, .slice x.ta s.p.th.length x.tc, .slice x.ia s.u.i.length x.ic, .slice x.oa s.u.o.length x.oc, .int .i64 s.u.ie, .int .i64 s.u.lost, .int .i64 (s.c 0), .int .i64 (s.c 1), .int .i64 (s.c 2), .int .u64 (s.c 3), .int .i64 (s.c 4), .int .i64 (s.c 5), .int .i64 (s.c 6), .int .u64 (s.c 7), .int .i64 (s.c 8), .int .i64 (s.c 9), .int .i64 (s.c 10), .int .i64 (s.c 11), .int .i64 (s.c 12), .slice x.ma s.m.length x.mc]
abbrev bdV (x : BX) (s : BS) : Value := .agg (bdA x s)
abbrev zeroB : Array Value := #[.slice none 0 0, .int .u64 0, .int .u64 0, .bool false, .slice none 0 0, .int .i64 0, .int .i64 0, .slice none 0 0, .slice none 0 0, .slice none 0 0, .slice none 0 0, .int .i64 0, .int .i64 0, .int .i64 0, .int .i64 0, .int .i64 0, .int .u64 0, .int .i64 0, .int .i64 0, .int .i64 0, .int .u64 0, .int .i64 0, .int .i64 0, .int .i64 0, .int .i64 0, .int .i64 0, .slice none 0 0]
abbrev rmP (x : BX) (s : BS) : Array Value := #[.slice x.ra s.r.length x.rc]
abbrev clP (s : BS) : Array Value := #[.int .u64 s.T, .int .u64 s.C, .bool s.S]
abbrev plP (x : BX) (s : BS) : Array Value := #[.slice x.pa s.p.pr.length x.pc, .int .i64 s.p.n, .int .i64 s.p.k, .slice x.ea s.p.en.length x.ec, .slice x.ta s.p.th.length x.tc]
abbrev uaP (x : BX) (s : BS) : Array Value := #[.slice x.ia s.u.i.length x.ic, .slice x.oa s.u.o.length x.oc, .int .i64 s.u.ie, .int .i64 s.u.lost]
abbrev ncP (x : BX) (s : BS) : Array Value := ncA s.c (.slice x.ma s.m.length x.mc)
theorem bd_size (x : BX) (s : BS) : (bdA x s).size = 27 := rfl
theorem bdInfo : (Tryz.prog.info? 36).map (·.size) = some 27 := by kernel_rfl
theorem rmInfo : (Tryz.prog.info? 24).map (·.size) = some 1 := by kernel_rfl
theorem clInfo : (Tryz.prog.info? 27).map (·.size) = some 3 := by kernel_rfl
theorem plInfo : (Tryz.prog.info? 30).map (·.size) = some 5 := by kernel_rfl
theorem uaInfo : (Tryz.prog.info? 32).map (·.size) = some 4 := by kernel_rfl
theorem bd_one (x : BX) (s : BS) : ((bdA x s).all fun v => v.oneCell') = true := by simp [bdA, Value.oneCell']
theorem nb_bd (x : BX) (s : BS) : NoByte (bdA x s) := fun k y => by
  match k with
  | 0 => exact fun h => by cases h
  | 1 => exact fun h => by cases h
  | 2 => exact fun h => by cases h
  | 3 => exact fun h => by cases h
  | 4 => exact fun h => by cases h
  | 5 => exact fun h => by cases h
  | 6 => exact fun h => by cases h
  | 7 => exact fun h => by cases h
  | 8 => exact fun h => by cases h
  | 9 => exact fun h => by cases h
  | 10 => exact fun h => by cases h
  | 11 => exact fun h => by cases h
  | 12 => exact fun h => by cases h
  | 13 => exact fun h => by cases h
  | 14 => exact fun h => by cases h
  | 15 => exact fun h => by cases h
  | 16 => exact fun h => by cases h
  | 17 => exact fun h => by cases h
  | 18 => exact fun h => by cases h
  | 19 => exact fun h => by cases h
  | 20 => exact fun h => by cases h
  | 21 => exact fun h => by cases h
  | 22 => exact fun h => by cases h
  | 23 => exact fun h => by cases h
  | 24 => exact fun h => by cases h
  | 25 => exact fun h => by cases h
  | 26 => exact fun h => by cases h
  | k + 27 => rw [Array.getElem?_eq_none (by rw [bd_size]; omega)]; simp
/-- A board's rows in memory. -/
structure Bd (w : World) (x : BX) (s : BS) : Prop where
  r : Buf w (.slice x.ra s.r.length x.rc) s.r
  p : Pl w (.agg (plP x s)) s.p
  u : Ua w (.agg (uaP x s)) s.u
  m : Buf w (.slice x.ma s.m.length x.mc) s.m
/-- The same, the interrupt controller's rows being their blocks' own. -/
structure Bdr (w : World) (x : BX) (s : BS) : Prop where
  r : Buf w (.slice x.ra s.r.length x.rc) s.r
  p : Plr w 0 (.agg (plP x s)) s.p
  u : Ua w (.agg (uaP x s)) s.u
  m : Buf w (.slice x.ma s.m.length x.mc) s.m
theorem Bdr.bd {w : World} {x : BX} {s : BS} (h : Bdr w x s) : Bd w x s := ⟨h.r, h.p.pl, h.u, h.m⟩
theorem Bd.grew {w w' : World} {x : BX} {s : BS} (h : Bd w x s) (g : Grew w w') : Bd w' x s := ⟨h.r.grew g, h.p.grew g, h.u.grew g, h.m.grew g⟩
theorem Bdr.grew {w w' : World} {x : BX} {s : BS} (h : Bdr w x s) (g : Grew w w') : Bdr w' x s := ⟨h.r.grew g, h.p.grew g, h.u.grew g, h.m.grew g⟩
theorem Ints.Row.onlyB {w w' : World} {B g : Nat} {v : Value} {xs : List Int} {cs : Array Value} {T : TypeId} (h : Ints.Row w B v xs) (o : Go.Proofs.YtgcfmijkggpemaaGreat.Only w w' g) (hX : Blk w g cs T) (hT : T ≠ 3) : Ints.Row w' B v xs := by
  refine ⟨h.1, ?_⟩
  rcases h.2 with h | ⟨b', cap, cur, e, hg, hh, r⟩
  · exact .inl h
  · refine .inr ⟨b', cap, cur, e, hg, ?_, r⟩
    have hne : b' ≠ g := by
      rintro rfl
      unfold Blk at hX
      rw [hX] at hh
      simp only [Option.some.injEq, Obj.cells.injEq] at hh
      exact hT hh.2.1
    rw [o.block b' hne]
    exact hh
theorem Plr.only {w w' : World} {B g : Nat} {v : Value} {s : PS} {cs : Array Value} {T : TypeId} (h : Plr w B v s) (o : Only w w' g) (hX : Blk w g cs T) (hT : T ≠ 3) : Plr w' B v s := by
  obtain ⟨vP, vE, vT, rfl, h1, h2, h3⟩ := h.shape
  exact ⟨⟨vP, vE, vT, rfl, h1.onlyB o hX hT, h2.onlyB o hX hT, h3.onlyB o hX hT⟩, h.pr, h.en, h.th, h.n, h.k⟩
theorem Ua.only {w w' : World} {g : Nat} {v : Value} {s : US} {cs : Array Value} {T : TypeId} (h : Ua w v s) (o : Only w w' g) (hX : Blk w g cs T) (hc : NoByte cs) : Ua w' v s := by
  obtain ⟨u1, u2, rfl, h1, h2⟩ := h.shape
  exact ⟨⟨u1, u2, rfl, h1.only o hX hc, h2.only o hX hc⟩, h.ie, h.lost⟩
/-- A board's rows stay where a block without bytes and not of numbers is written. -/
theorem Bdr.only {w w' : World} {g : Nat} {x : BX} {s : BS} {cs : Array Value} {T : TypeId} (h : Bdr w x s) (o : Only w w' g) (hX : Blk w g cs T) (hc : NoByte cs) (hT : T ≠ 3) : Bdr w' x s :=
  ⟨h.r.only o hX hc, h.p.only o hX hT, h.u.only o hX hc, h.m.only o hX hc⟩
theorem nb_zero : NoByte zeroB := nb_bd ⟨none, 0, none, 0, none, 0, none, 0, none, 0, none, 0, none, 0⟩ ⟨[], 0, 0, false, ⟨[], 0, 0, [], []⟩, ⟨[], [], 0, 0⟩, fun _ => 0, []⟩
/-- What a board may be so that all goes through. -/
structure BOk (s : BS) : Prop where
  r : s.r.length ≤ 140737488355328
  pr : s.p.pr.length ≤ 17592186044416
  en : s.p.en.length ≤ 17592186044416
  th : s.p.th.length ≤ 17592186044416
  i : s.u.i.length ≤ 35184372088832
  o : s.u.o.length ≤ 35184372088832
  m : s.m.length ≤ 140737488355328
  T : 0 ≤ s.T ∧ s.T < 18446744073709551616
  C : 0 ≤ s.C ∧ s.C < 18446744073709551616

theorem ld_bd {ops : Array Oper} {rest : List Oper} {o : Oper} {a : Act} {w : World} {Q : Exit → Act → World → Prop} (hgd : o.guard = none) (v : Operand) (ho : o.op = .load 36 v) (d : Option Tmp) (hd : o.dst = d) {g : Nat} {x : BX} {s : BS} {T : TypeId}
    (k : Blk w g (bdA x s) T) (hx : a.eval v = .pointer (some ⟨g, 0, none⟩)) (h : wpList Tryz.prog ops Q rest (a.put d (bdV x s)) w) : wpList Tryz.prog ops Q (o :: rest) a w := by
  subst hd
  exact wpList_load_row hgd _ v ho g hx T (bdA x s) (0, 0) _ k Tryz.underlying36 rfl bdInfo h
theorem st_bd {ops : Array Oper} {rest : List Oper} {o : Oper} {a : Act} {w : World} {Q : Exit → Act → World → Prop} (hgd : o.guard = none) (v y : Operand) (ho : o.op = .store 36 v y) (hd : o.dst = none) {g : Nat} (x : BX) (s : BS) {old : Array Value} {T : TypeId}
    (k : Blk w g old T) (hold : old.size = 27) (hx : a.eval v = .pointer (some ⟨g, 0, none⟩)) (hy : a.eval y = bdV x s)
    (h : ∀ w', Blk w' g (bdA x s) T → Only w w' g → wpList Tryz.prog ops Q rest a w') : wpList Tryz.prog ops Q (o :: rest) a w :=
  wpList_store_rowTo hgd _ v y ho hd g (bdA x s) hx hy T old k bdInfo hold (bd_one x s) (h _ (Blk.setRow k) (Only.setRow _ _ _))
theorem var_bd {w : World} {g : Nat} {x : BX} {s : BS} {T : TypeId} (k : Blk w g (bdA x s) T) : (loadVar 36 ⟨g, 0, none⟩).run Tryz.prog w = .ok (bdV x s) w :=
  run_loadVar_row w g T _ (bdA x s) (0, 0) _ k Tryz.underlying36 rfl bdInfo
theorem results_bd {fn : Func} {p : Tmp} (h : fn.results = #[.cell p 36]) (tmps : Array Value) (w : World) (g : Nat) {x : BX} {s : BS} {T : TypeId} (k : Blk w g (bdA x s) T)
    (hp : tmps.getD p undef = .pointer (some ⟨g, 0, none⟩)) : (results fn tmps).run Tryz.prog w = .ok (bdV x s) w :=
  results_cell_row h tmps w g T (bdA x s) (0, 0) _ hp k Tryz.underlying36 rfl bdInfo
theorem results_bb {fn : Func} {p q : Tmp} (h : fn.results = #[.cell p 36, .tmp q]) (tmps : Array Value) (w : World) (g : Nat) {x : BX} {s : BS} {T : TypeId} (k : Blk w g (bdA x s) T)
    (hp : tmps.getD p undef = .pointer (some ⟨g, 0, none⟩)) : (results fn tmps).run Tryz.prog w = .ok (.tuple #[bdV x s, tmps.getD q undef]) w := by
  have hp' : tmps[p]?.getD undef = .pointer (some ⟨g, 0, none⟩) := by simpa using hp
  simp [results, h, hp', asAddr, var_bd k]
theorem results_xbb {fn : Func} {p q r : Tmp} (h : fn.results = #[.tmp r, .cell p 36, .tmp q]) (tmps : Array Value) (w : World) (g : Nat) {x : BX} {s : BS} {T : TypeId} (k : Blk w g (bdA x s) T)
    (hp : tmps.getD p undef = .pointer (some ⟨g, 0, none⟩)) : (results fn tmps).run Tryz.prog w = .ok (.tuple #[tmps.getD r undef, bdV x s, tmps.getD q undef]) w := by
  have hp' : tmps[p]?.getD undef = .pointer (some ⟨g, 0, none⟩) := by simpa using hp
  simp [results, h, hp', asAddr, var_bd k]

theorem ld_rmP {ops : Array Oper} {rest : List Oper} {o : Oper} {a : Act} {w : World} {Q : Exit → Act → World → Prop} (hgd : o.guard = none) (v : Operand) (ho : o.op = .load 24 v) (d : Option Tmp) (hd : o.dst = d) {g : Nat} {x : BX} {s : BS} {T : TypeId}
    (k : Blk w g (bdA x s) T) (hx : a.eval v = .pointer (some ⟨g, 0, none⟩)) (h : wpList Tryz.prog ops Q rest (a.put d (.agg (rmP x s))) w) : wpList Tryz.prog ops Q (o :: rest) a w :=
  wpList_load_part hgd _ v ho d hd k (rmP x s) hx _ Tryz.underlying24 rfl rmInfo rfl h
theorem ld_clP {ops : Array Oper} {rest : List Oper} {o : Oper} {a : Act} {w : World} {Q : Exit → Act → World → Prop} (hgd : o.guard = none) (v : Operand) (ho : o.op = .load 27 v) (d : Option Tmp) (hd : o.dst = d) {g : Nat} {x : BX} {s : BS} {T : TypeId}
    (k : Blk w g (bdA x s) T) (hx : a.eval v = .pointer (some ⟨g, 1, none⟩)) (h : wpList Tryz.prog ops Q rest (a.put d (.agg (clP s))) w) : wpList Tryz.prog ops Q (o :: rest) a w :=
  wpList_load_part hgd _ v ho d hd k (clP s) hx _ Tryz.underlying27 rfl clInfo rfl h
theorem ld_plP {ops : Array Oper} {rest : List Oper} {o : Oper} {a : Act} {w : World} {Q : Exit → Act → World → Prop} (hgd : o.guard = none) (v : Operand) (ho : o.op = .load 30 v) (d : Option Tmp) (hd : o.dst = d) {g : Nat} {x : BX} {s : BS} {T : TypeId}
    (k : Blk w g (bdA x s) T) (hx : a.eval v = .pointer (some ⟨g, 4, none⟩)) (h : wpList Tryz.prog ops Q rest (a.put d (.agg (plP x s))) w) : wpList Tryz.prog ops Q (o :: rest) a w :=
  wpList_load_part hgd _ v ho d hd k (plP x s) hx _ Tryz.underlying30 rfl plInfo rfl h
theorem ld_uaP {ops : Array Oper} {rest : List Oper} {o : Oper} {a : Act} {w : World} {Q : Exit → Act → World → Prop} (hgd : o.guard = none) (v : Operand) (ho : o.op = .load 32 v) (d : Option Tmp) (hd : o.dst = d) {g : Nat} {x : BX} {s : BS} {T : TypeId}
    (k : Blk w g (bdA x s) T) (hx : a.eval v = .pointer (some ⟨g, 9, none⟩)) (h : wpList Tryz.prog ops Q rest (a.put d (.agg (uaP x s))) w) : wpList Tryz.prog ops Q (o :: rest) a w :=
  wpList_load_part hgd _ v ho d hd k (uaP x s) hx _ Tryz.underlying32 rfl uaInfo rfl h
theorem ld_nnP {ops : Array Oper} {rest : List Oper} {o : Oper} {a : Act} {w : World} {Q : Exit → Act → World → Prop} (hgd : o.guard = none) (v : Operand) (ho : o.op = .load 34 v) (d : Option Tmp) (hd : o.dst = d) {g : Nat} {x : BX} {s : BS} {T : TypeId}
    (k : Blk w g (bdA x s) T) (hx : a.eval v = .pointer (some ⟨g, 13, none⟩)) (h : wpList Tryz.prog ops Q rest (a.put d (.agg (ncP x s))) w) : wpList Tryz.prog ops Q (o :: rest) a w :=
  wpList_load_part hgd _ v ho d hd k (ncP x s) hx _ Tryz.underlying34 rfl ncInfo rfl h
theorem st_rmP {ops : Array Oper} {rest : List Oper} {o : Oper} {a : Act} {w : World} {Q : Exit → Act → World → Prop} (hgd : o.guard = none) (v y : Operand) (ho : o.op = .store 24 v y) (hd : o.dst = none) {g : Nat} {x : BX} {s : BS} {T : TypeId} (ra' : Option Addr) (rc' : Nat) (r' : List Int)
    (k : Blk w g (bdA x s) T) (hx : a.eval v = .pointer (some ⟨g, 0, none⟩)) (hy : a.eval y = .agg (#[.slice ra' r'.length rc']))
    (h : ∀ w', Blk w' g (bdA { x with ra := ra', rc := rc' } { s with r := r' }) T → Only w w' g → wpList Tryz.prog ops Q rest a w') : wpList Tryz.prog ops Q (o :: rest) a w :=
  wpList_store_part hgd _ v y ho hd k (#[.slice ra' r'.length rc']) (bdA { x with ra := ra', rc := rc' } { s with r := r' }) hx hy rmInfo (by rw [bd_size]; exact Nat.le_of_ble_eq_true rfl) (by simp [ncA, Value.oneCell']) rfl h
theorem st_clP {ops : Array Oper} {rest : List Oper} {o : Oper} {a : Act} {w : World} {Q : Exit → Act → World → Prop} (hgd : o.guard = none) (v y : Operand) (ho : o.op = .store 27 v y) (hd : o.dst = none) {g : Nat} {x : BX} {s : BS} {T : TypeId} (T' C' : Int) (S' : Bool)
    (k : Blk w g (bdA x s) T) (hx : a.eval v = .pointer (some ⟨g, 1, none⟩)) (hy : a.eval y = .agg (#[.int .u64 T', .int .u64 C', .bool S']))
    (h : ∀ w', Blk w' g (bdA x { s with T := T', C := C', S := S' }) T → Only w w' g → wpList Tryz.prog ops Q rest a w') : wpList Tryz.prog ops Q (o :: rest) a w :=
  wpList_store_part hgd _ v y ho hd k (#[.int .u64 T', .int .u64 C', .bool S']) (bdA x { s with T := T', C := C', S := S' }) hx hy clInfo (by rw [bd_size]; exact Nat.le_of_ble_eq_true rfl) (by simp [ncA, Value.oneCell']) rfl h
theorem st_plP {ops : Array Oper} {rest : List Oper} {o : Oper} {a : Act} {w : World} {Q : Exit → Act → World → Prop} (hgd : o.guard = none) (v y : Operand) (ho : o.op = .store 30 v y) (hd : o.dst = none) {g : Nat} {x : BX} {s : BS} {T : TypeId} (p' : PS) (pa' : Option Addr) (pc' : Nat) (ea' : Option Addr) (ec' : Nat) (ta' : Option Addr) (tc' : Nat)
    (k : Blk w g (bdA x s) T) (hx : a.eval v = .pointer (some ⟨g, 4, none⟩)) (hy : a.eval y = .agg (#[.slice pa' p'.pr.length pc', .int .i64 p'.n, .int .i64 p'.k, .slice ea' p'.en.length ec', .slice ta' p'.th.length tc']))
    (h : ∀ w', Blk w' g (bdA { x with pa := pa', pc := pc', ea := ea', ec := ec', ta := ta', tc := tc' } { s with p := p' }) T → Only w w' g → wpList Tryz.prog ops Q rest a w') : wpList Tryz.prog ops Q (o :: rest) a w :=
  wpList_store_part hgd _ v y ho hd k (#[.slice pa' p'.pr.length pc', .int .i64 p'.n, .int .i64 p'.k, .slice ea' p'.en.length ec', .slice ta' p'.th.length tc']) (bdA { x with pa := pa', pc := pc', ea := ea', ec := ec', ta := ta', tc := tc' } { s with p := p' }) hx hy plInfo (by rw [bd_size]; exact Nat.le_of_ble_eq_true rfl) (by simp [ncA, Value.oneCell']) rfl h
theorem st_uaP {ops : Array Oper} {rest : List Oper} {o : Oper} {a : Act} {w : World} {Q : Exit → Act → World → Prop} (hgd : o.guard = none) (v y : Operand) (ho : o.op = .store 32 v y) (hd : o.dst = none) {g : Nat} {x : BX} {s : BS} {T : TypeId} (u' : US) (ia' : Option Addr) (ic' : Nat) (oa' : Option Addr) (oc' : Nat)
    (k : Blk w g (bdA x s) T) (hx : a.eval v = .pointer (some ⟨g, 9, none⟩)) (hy : a.eval y = .agg (#[.slice ia' u'.i.length ic', .slice oa' u'.o.length oc', .int .i64 u'.ie, .int .i64 u'.lost]))
    (h : ∀ w', Blk w' g (bdA { x with ia := ia', ic := ic', oa := oa', oc := oc' } { s with u := u' }) T → Only w w' g → wpList Tryz.prog ops Q rest a w') : wpList Tryz.prog ops Q (o :: rest) a w :=
  wpList_store_part hgd _ v y ho hd k (#[.slice ia' u'.i.length ic', .slice oa' u'.o.length oc', .int .i64 u'.ie, .int .i64 u'.lost]) (bdA { x with ia := ia', ic := ic', oa := oa', oc := oc' } { s with u := u' }) hx hy uaInfo (by rw [bd_size]; exact Nat.le_of_ble_eq_true rfl) (by simp [ncA, Value.oneCell']) rfl h
theorem st_nnP {ops : Array Oper} {rest : List Oper} {o : Oper} {a : Act} {w : World} {Q : Exit → Act → World → Prop} (hgd : o.guard = none) (v y : Operand) (ho : o.op = .store 34 v y) (hd : o.dst = none) {g : Nat} {x : BX} {s : BS} {T : TypeId} (c' : Nat → Int) (m' : List Int) (ma' : Option Addr) (mc' : Nat)
    (k : Blk w g (bdA x s) T) (hx : a.eval v = .pointer (some ⟨g, 13, none⟩)) (hy : a.eval y = .agg (ncA c' (.slice ma' m'.length mc')))
    (h : ∀ w', Blk w' g (bdA { x with ma := ma', mc := mc' } { s with c := c', m := m' }) T → Only w w' g → wpList Tryz.prog ops Q rest a w') : wpList Tryz.prog ops Q (o :: rest) a w :=
  wpList_store_part hgd _ v y ho hd k (ncA c' (.slice ma' m'.length mc')) (bdA { x with ma := ma', mc := mc' } { s with c := c', m := m' }) hx hy ncInfo (by rw [bd_size]; exact Nat.le_of_ble_eq_true rfl) (by simp [ncA, Value.oneCell']) rfl h
theorem fa_0 {ops : Array Oper} {rest : List Oper} {o : Oper} {a : Act} {w : World} {Q : Exit → Act → World → Prop} (hgd : o.guard = none) (v : Operand) (ho : o.op = .fieldAddr 36 v 0) (d : Option Tmp) (hd : o.dst = d) (g : Nat)
    (hx : a.eval v = .pointer (some ⟨g, 0, none⟩)) (h : wpList Tryz.prog ops Q rest (a.put d (.pointer (some ⟨g, 0, none⟩))) w) : wpList Tryz.prog ops Q (o :: rest) a w :=
  wpList_fieldAt hgd _ v 0 ho d hd _ (.pointer (some ⟨g, 0, none⟩)) hx (by kernel_rfl) h
theorem fa_1 {ops : Array Oper} {rest : List Oper} {o : Oper} {a : Act} {w : World} {Q : Exit → Act → World → Prop} (hgd : o.guard = none) (v : Operand) (ho : o.op = .fieldAddr 36 v 1) (d : Option Tmp) (hd : o.dst = d) (g : Nat)
    (hx : a.eval v = .pointer (some ⟨g, 0, none⟩)) (h : wpList Tryz.prog ops Q rest (a.put d (.pointer (some ⟨g, 1, none⟩))) w) : wpList Tryz.prog ops Q (o :: rest) a w :=
  wpList_fieldAt hgd _ v 1 ho d hd _ (.pointer (some ⟨g, 1, none⟩)) hx (by kernel_rfl) h
theorem fa_2 {ops : Array Oper} {rest : List Oper} {o : Oper} {a : Act} {w : World} {Q : Exit → Act → World → Prop} (hgd : o.guard = none) (v : Operand) (ho : o.op = .fieldAddr 36 v 2) (d : Option Tmp) (hd : o.dst = d) (g : Nat)
    (hx : a.eval v = .pointer (some ⟨g, 0, none⟩)) (h : wpList Tryz.prog ops Q rest (a.put d (.pointer (some ⟨g, 4, none⟩))) w) : wpList Tryz.prog ops Q (o :: rest) a w :=
  wpList_fieldAt hgd _ v 2 ho d hd _ (.pointer (some ⟨g, 4, none⟩)) hx (by kernel_rfl) h
theorem fa_3 {ops : Array Oper} {rest : List Oper} {o : Oper} {a : Act} {w : World} {Q : Exit → Act → World → Prop} (hgd : o.guard = none) (v : Operand) (ho : o.op = .fieldAddr 36 v 3) (d : Option Tmp) (hd : o.dst = d) (g : Nat)
    (hx : a.eval v = .pointer (some ⟨g, 0, none⟩)) (h : wpList Tryz.prog ops Q rest (a.put d (.pointer (some ⟨g, 9, none⟩))) w) : wpList Tryz.prog ops Q (o :: rest) a w :=
  wpList_fieldAt hgd _ v 3 ho d hd _ (.pointer (some ⟨g, 9, none⟩)) hx (by kernel_rfl) h
theorem fa_4 {ops : Array Oper} {rest : List Oper} {o : Oper} {a : Act} {w : World} {Q : Exit → Act → World → Prop} (hgd : o.guard = none) (v : Operand) (ho : o.op = .fieldAddr 36 v 4) (d : Option Tmp) (hd : o.dst = d) (g : Nat)
    (hx : a.eval v = .pointer (some ⟨g, 0, none⟩)) (h : wpList Tryz.prog ops Q rest (a.put d (.pointer (some ⟨g, 13, none⟩))) w) : wpList Tryz.prog ops Q (o :: rest) a w :=
  wpList_fieldAt hgd _ v 4 ho d hd _ (.pointer (some ⟨g, 13, none⟩)) hx (by kernel_rfl) h
theorem cloneB_c {v : Value} {xs : List Int} (hl : xs.length ≤ 140737488355328) {w : World} (hb : Buf w v xs) :
    Calls Tryz.prog 43 #[v] w fun e w' => ∃ a c, e = .returned (.slice a xs.length c) ∧ Hid (Row w' w.heap.size (.slice a xs.length c) xs) ∧ Grew w w' := by
  obtain ⟨a, c, rfl, hc, ha⟩ := hb.shape
  have HB := Lib.hid hb
  rcases a with _ | ad
  · have hnil := fun w => Lib.run_eql_slice_nil (P := Tryz.prog) w 22 5 none 0 c 0 0 Tryz.underlying22
    have hx : xs = [] := by
      by_cases h : xs = []
      · exact h
      · obtain ⟨_, _, e, _⟩ := ha h
        cases e
    subst hx
    clear hb ha hc
    go_enter Tryz.func43, Tryz.ntmps43
    go_wp2_with fail
    go_ret
    exact ⟨none, 0, rfl, Lib.hid (Row.nil _ _), Grew.refl _⟩
  · have hnil := fun w => Lib.run_eql_slice_nil (P := Tryz.prog) w 22 5 (some ad) xs.length c 0 0 Tryz.underlying22
    clear ha hb
    go_enter Tryz.func43, Tryz.ntmps43
    go_wp2_with (refine wpList_append_b (W := w) rfl (.tmp 5) (.tmp 6) rfl (by exact (Grew.refl w).alloc _) (Row.lit w w.heap.size (Nat.le_refl _) #[] [] rfl (Nat.zero_le _) _ rfl 0 rfl) (HB.out.grew ((Grew.refl w).alloc _)) (by rfl) (by rfl) (by simpa using hl) ?_; intro v1 w1 HR1 g1 q1; clear q1; have HB1 := Lib.hid (HR1.out.buf HB.out.ok); obtain ⟨ao, co, eo, _, _⟩ := HB1.out.shape; subst eo)
    go_ret
    exact ⟨_, _, rfl, Lib.hid HR1.out, g1⟩
theorem clone_i {v : Value} {xs : List Int} (hl : xs.length ≤ 17592186044416) {w : World} (hb : Ints.Buf w v xs) : Calls Tryz.prog 68 #[v] w fun e w' => ∃ a c, e = .returned (.slice a xs.length c) ∧ Hid (Ints.Row w' w.heap.size (.slice a xs.length c) xs) ∧ Grew w w' := plClone_c hl hb
set_option maxHeartbeats 2000000 in
theorem ownD_c {x : BX} {s : BS} {w : World} (hk : BOk s) (hb : Bd w x s) : Calls Tryz.prog 44 #[bdV x s] w fun e w' => ∃ x', e = .returned (bdV x' s) ∧ Hid (Bdr w' x' s) ∧ Grew w w' := by
  obtain ⟨ra, rc, pa, pc, ea, ec, ta, tc, ia, ic, oa, oc, ma, mc⟩ := x
  have HK := Lib.hid hk
  have HB := Lib.hid hb
  have HR : Hid (Buf w (.slice ra s.r.length rc) s.r) := Lib.hid hb.r
  obtain ⟨vP, vE, vT, ev, h1, h2, h3⟩ := hb.p.shape
  simp only [plP, Value.agg.injEq, Array.mk.injEq, List.cons.injEq, true_and, and_true] at ev
  obtain ⟨rfl, rfl, rfl⟩ := ev
  obtain ⟨u1, u2, eu, h4, h5⟩ := hb.u.shape
  simp only [uaP, Value.agg.injEq, Array.mk.injEq, List.cons.injEq, true_and, and_true] at eu
  obtain ⟨rfl, rfl⟩ := eu
  have HP1 := Lib.hid h1
  have HP2 := Lib.hid h2
  have HP3 := Lib.hid h3
  have HU1 := Lib.hid h4
  have HU2 := Lib.hid h5
  have HM : Hid (Buf w (.slice ma s.m.length mc) s.m) := Lib.hid hb.m
  clear h1 h2 h3 h4 h5
  clear hb hk
  go_enter Tryz.func44, Tryz.ntmps44
  go_upto_region 1 with fail
  have kA : Blk ((w.alloc (.cells (bdA ⟨ra, rc, pa, pc, ea, ec, ta, tc, ia, ic, oa, oc, ma, mc⟩ s) 36)).alloc (.cells zeroB 36)) w.heap.size (bdA ⟨ra, rc, pa, pc, ea, ec, ta, tc, ia, ic, oa, oc, ma, mc⟩ s) 36 := (Blk.new _ _ _ _ rfl).alloc _
  have kR : Blk ((w.alloc (.cells (bdA ⟨ra, rc, pa, pc, ea, ec, ta, tc, ia, ic, oa, oc, ma, mc⟩ s) 36)).alloc (.cells zeroB 36)) (w.heap.size + 1) zeroB 36 := Blk.new _ _ _ _ (by simp)
  have g0 : Grew w ((w.alloc (.cells (bdA ⟨ra, rc, pa, pc, ea, ec, ta, tc, ia, ic, oa, oc, ma, mc⟩ s) 36)).alloc (.cells zeroB 36)) := ((Grew.refl w).alloc _).alloc _
  generalize ((w.alloc (.cells (bdA ⟨ra, rc, pa, pc, ea, ec, ta, tc, ia, ic, oa, oc, ma, mc⟩ s) 36)).alloc (.cells zeroB 36)) = w0 at *
  have nAR : w.heap.size ≠ w.heap.size + 1 := by omega
  have lA : w.heap.size ≤ w.heap.size := Nat.le_refl _
  have lR : w.heap.size ≤ w.heap.size + 1 := Nat.le_succ _
  generalize w.heap.size + 1 = R at *
  generalize hZ : w.heap.size = A at *
  have HZ := Lib.hid hZ
  clear hZ
  have LA : Hid (w.heap.size ≤ A) := Lib.hid (by rw [HZ.out]; exact lA)
  have LR : Hid (w.heap.size ≤ R) := Lib.hid (by rw [HZ.out]; exact lR)
  have y : w0.cell? ⟨A, 4, none⟩ = some (.slice pa s.p.pr.length pc) := kA.cell 4
  go_wp2_with fail
  refine (clone_i (by have := HK.out.pr; omega) (HP1.out.grew g0)).mono ?_
  rintro e v0 ⟨bp, zp, rfl, Hp, g1⟩
  replace kA := kA.grew g1
  replace kR := kR.grew g1
  replace g0 := g0.trans g1
  clear y g1
  have y : v0.cell? ⟨A, 4, none⟩ = some (.slice pa s.p.pr.length pc) := kA.cell 4
  have f := kA.free 4
  go_upto_region 2 with fail
  clear y f
  have oo := Only.set v0 A 4 (.slice bp s.p.pr.length zp)
  replace Hp := Lib.hid (Hp.out.onlyB oo kA (by decide))
  replace kR := kR.only oo nAR.symm
  replace g0 := oo.grew g0 LA.out
  replace kA := kA.set (o := 4) (.slice bp s.p.pr.length zp)
  generalize v0.setCell ⟨A, 4, none⟩ (.slice bp s.p.pr.length zp) = w1 at *
  replace kA : Blk w1 A (bdA ⟨ra, rc, bp, zp, ea, ec, ta, tc, ia, ic, oa, oc, ma, mc⟩ s) 36 := kA
  clear oo
  have y : w1.cell? ⟨A, 7, none⟩ = some (.slice ea s.p.en.length ec) := kA.cell 7
  go_wp2_with fail
  refine (clone_i (by have := HK.out.en; omega) (HP2.out.grew g0)).mono ?_
  rintro e v1 ⟨be, ze, rfl, He, g1⟩
  replace kA := kA.grew g1
  replace kR := kR.grew g1
  replace g0 := g0.trans g1
  replace Hp := Lib.hid (Hp.out.grew g1)
  clear y g1
  have y : v1.cell? ⟨A, 7, none⟩ = some (.slice ea s.p.en.length ec) := kA.cell 7
  have f := kA.free 7
  go_upto_region 3 with fail
  clear y f
  have oo := Only.set v1 A 7 (.slice be s.p.en.length ze)
  replace Hp := Lib.hid (Hp.out.onlyB oo kA (by decide))
  replace He := Lib.hid (He.out.onlyB oo kA (by decide))
  replace kR := kR.only oo nAR.symm
  replace g0 := oo.grew g0 LA.out
  replace kA := kA.set (o := 7) (.slice be s.p.en.length ze)
  generalize v1.setCell ⟨A, 7, none⟩ (.slice be s.p.en.length ze) = w2 at *
  replace kA : Blk w2 A (bdA ⟨ra, rc, bp, zp, be, ze, ta, tc, ia, ic, oa, oc, ma, mc⟩ s) 36 := kA
  clear oo
  have y : w2.cell? ⟨A, 8, none⟩ = some (.slice ta s.p.th.length tc) := kA.cell 8
  go_wp2_with fail
  refine (clone_i (by have := HK.out.th; omega) (HP3.out.grew g0)).mono ?_
  rintro e v2 ⟨bt, zt, rfl, Ht, g1⟩
  replace kA := kA.grew g1
  replace kR := kR.grew g1
  replace g0 := g0.trans g1
  replace Hp := Lib.hid (Hp.out.grew g1)
  replace He := Lib.hid (He.out.grew g1)
  clear y g1
  have y : v2.cell? ⟨A, 8, none⟩ = some (.slice ta s.p.th.length tc) := kA.cell 8
  have f := kA.free 8
  go_upto_region 4 with fail
  clear y f
  have oo := Only.set v2 A 8 (.slice bt s.p.th.length zt)
  replace Hp := Lib.hid (Hp.out.onlyB oo kA (by decide))
  replace He := Lib.hid (He.out.onlyB oo kA (by decide))
  replace Ht := Lib.hid (Ht.out.onlyB oo kA (by decide))
  replace kR := kR.only oo nAR.symm
  replace g0 := oo.grew g0 LA.out
  replace kA := kA.set (o := 8) (.slice bt s.p.th.length zt)
  generalize v2.setCell ⟨A, 8, none⟩ (.slice bt s.p.th.length zt) = w3 at *
  replace kA : Blk w3 A (bdA ⟨ra, rc, bp, zp, be, ze, bt, zt, ia, ic, oa, oc, ma, mc⟩ s) 36 := kA
  clear oo
  have y : w3.cell? ⟨A, 9, none⟩ = some (.slice ia s.u.i.length ic) := kA.cell 9
  go_wp2_with fail
  refine (cloneB_c (by have := HK.out.i; omega) (HU1.out.grew g0)).mono ?_
  rintro e v3 ⟨bi, zi, rfl, Hi, g1⟩
  replace kA := kA.grew g1
  replace kR := kR.grew g1
  replace g0 := g0.trans g1
  replace Hp := Lib.hid (Hp.out.grew g1)
  replace He := Lib.hid (He.out.grew g1)
  replace Ht := Lib.hid (Ht.out.grew g1)
  clear y g1
  have y : v3.cell? ⟨A, 9, none⟩ = some (.slice ia s.u.i.length ic) := kA.cell 9
  have f := kA.free 9
  go_upto_region 5 with fail
  clear y f
  have oo := Only.set v3 A 9 (.slice bi s.u.i.length zi)
  replace Hp := Lib.hid (Hp.out.onlyB oo kA (by decide))
  replace He := Lib.hid (He.out.onlyB oo kA (by decide))
  replace Ht := Lib.hid (Ht.out.onlyB oo kA (by decide))
  replace Hi := Lib.hid (Hi.out.only oo kA (by decide))
  replace kR := kR.only oo nAR.symm
  replace g0 := oo.grew g0 LA.out
  replace kA := kA.set (o := 9) (.slice bi s.u.i.length zi)
  generalize v3.setCell ⟨A, 9, none⟩ (.slice bi s.u.i.length zi) = w4 at *
  replace kA : Blk w4 A (bdA ⟨ra, rc, bp, zp, be, ze, bt, zt, bi, zi, oa, oc, ma, mc⟩ s) 36 := kA
  clear oo
  have y : w4.cell? ⟨A, 10, none⟩ = some (.slice oa s.u.o.length oc) := kA.cell 10
  go_wp2_with fail
  refine (cloneB_c (by have := HK.out.o; omega) (HU2.out.grew g0)).mono ?_
  rintro e v4 ⟨bo, zo, rfl, Ho, g1⟩
  replace kA := kA.grew g1
  replace kR := kR.grew g1
  replace g0 := g0.trans g1
  replace Hp := Lib.hid (Hp.out.grew g1)
  replace He := Lib.hid (He.out.grew g1)
  replace Ht := Lib.hid (Ht.out.grew g1)
  replace Hi := Lib.hid (Hi.out.grew g1)
  clear y g1
  have y : v4.cell? ⟨A, 10, none⟩ = some (.slice oa s.u.o.length oc) := kA.cell 10
  have f := kA.free 10
  go_upto_region 6 with fail
  clear y f
  have oo := Only.set v4 A 10 (.slice bo s.u.o.length zo)
  replace Hp := Lib.hid (Hp.out.onlyB oo kA (by decide))
  replace He := Lib.hid (He.out.onlyB oo kA (by decide))
  replace Ht := Lib.hid (Ht.out.onlyB oo kA (by decide))
  replace Hi := Lib.hid (Hi.out.only oo kA (by decide))
  replace Ho := Lib.hid (Ho.out.only oo kA (by decide))
  replace kR := kR.only oo nAR.symm
  replace g0 := oo.grew g0 LA.out
  replace kA := kA.set (o := 10) (.slice bo s.u.o.length zo)
  generalize v4.setCell ⟨A, 10, none⟩ (.slice bo s.u.o.length zo) = w5 at *
  replace kA : Blk w5 A (bdA ⟨ra, rc, bp, zp, be, ze, bt, zt, bi, zi, bo, zo, ma, mc⟩ s) 36 := kA
  clear oo
  have y : w5.cell? ⟨A, 26, none⟩ = some (.slice ma s.m.length mc) := kA.cell 26
  go_wp2_with fail
  refine (cloneB_c (by have := HK.out.m; omega) (HM.out.grew g0)).mono ?_
  rintro e v5 ⟨bm, zm, rfl, Hm, g1⟩
  replace kA := kA.grew g1
  replace kR := kR.grew g1
  replace g0 := g0.trans g1
  replace Hp := Lib.hid (Hp.out.grew g1)
  replace He := Lib.hid (He.out.grew g1)
  replace Ht := Lib.hid (Ht.out.grew g1)
  replace Hi := Lib.hid (Hi.out.grew g1)
  replace Ho := Lib.hid (Ho.out.grew g1)
  clear y g1
  have y : v5.cell? ⟨A, 26, none⟩ = some (.slice ma s.m.length mc) := kA.cell 26
  have f := kA.free 26
  go_upto_region 7 with fail
  clear y f
  have oo := Only.set v5 A 26 (.slice bm s.m.length zm)
  replace Hp := Lib.hid (Hp.out.onlyB oo kA (by decide))
  replace He := Lib.hid (He.out.onlyB oo kA (by decide))
  replace Ht := Lib.hid (Ht.out.onlyB oo kA (by decide))
  replace Hi := Lib.hid (Hi.out.only oo kA (by decide))
  replace Ho := Lib.hid (Ho.out.only oo kA (by decide))
  replace Hm := Lib.hid (Hm.out.only oo kA (by decide))
  replace kR := kR.only oo nAR.symm
  replace g0 := oo.grew g0 LA.out
  replace kA := kA.set (o := 26) (.slice bm s.m.length zm)
  generalize v5.setCell ⟨A, 26, none⟩ (.slice bm s.m.length zm) = w6 at *
  replace kA : Blk w6 A (bdA ⟨ra, rc, bp, zp, be, ze, bt, zt, bi, zi, bo, zo, bm, zm⟩ s) 36 := kA
  clear oo
  go_wp2_with (first | refine ld_bd rfl (.tmp 1) rfl _ rfl kA (by rfl) ?_ | (refine st_bd rfl (.tmp 2) (.tmp 39) rfl rfl ⟨ra, rc, bp, zp, be, ze, bt, zt, bi, zi, bo, zo, bm, zm⟩ s kR rfl (by rfl) (by rfl) ?_; intro wz kz oz))
  have kX := kR
  exact bodyPost_ret (v := bdV ⟨ra, rc, bp, zp, be, ze, bt, zt, bi, zi, bo, zo, bm, zm⟩ s) (results_bd (p := 2) Tryz.results44 _ _ R kz rfl) rfl ⟨⟨ra, rc, bp, zp, be, ze, bt, zt, bi, zi, bo, zo, bm, zm⟩, rfl, Lib.hid ⟨(HR.out.grew g0).only oz kX nb_zero, ⟨⟨_, _, _, rfl, (Hp.out.onlyB oz kX (by decide)).low (Nat.zero_le _), (He.out.onlyB oz kX (by decide)).low (Nat.zero_le _), (Ht.out.onlyB oz kX (by decide)).low (Nat.zero_le _)⟩, HP1.out.ok, HP2.out.ok, HP3.out.ok, HB.out.p.n, HB.out.p.k⟩, ⟨⟨_, _, rfl, ((Hi.out.only oz kX (by decide)).buf HU1.out.ok), ((Ho.out.only oz kX (by decide)).buf HU2.out.ok)⟩, HB.out.u.ie, HB.out.u.lost⟩, ((Hm.out.only oz kX (by decide)).buf HM.out.ok)⟩, oz.grew g0 LR.out⟩
set_option maxHeartbeats 2000000 in
theorem ownB_c {x : BX} {s : BS} {w : World} (hk : BOk s) (hb : Bd w x s) : Calls Tryz.prog 25 #[bdV x s] w fun e w' => ∃ x', e = .returned (bdV x' s) ∧ Hid (Bdr w' x' s) ∧ Grew w w' := by
  obtain ⟨ra, rc, pa, pc, ea, ec, ta, tc, ia, ic, oa, oc, ma, mc⟩ := x
  have HK := Lib.hid hk
  have HB := Lib.hid hb
  have HR : Hid (Buf w (.slice ra s.r.length rc) s.r) := Lib.hid hb.r
  clear hb hk
  go_enter Tryz.func25, Tryz.ntmps25
  go_upto_region 1 with fail
  have kA : Blk ((w.alloc (.cells (bdA ⟨ra, rc, pa, pc, ea, ec, ta, tc, ia, ic, oa, oc, ma, mc⟩ s) 36)).alloc (.cells zeroB 36)) w.heap.size (bdA ⟨ra, rc, pa, pc, ea, ec, ta, tc, ia, ic, oa, oc, ma, mc⟩ s) 36 := (Blk.new _ _ _ _ rfl).alloc _
  have kR : Blk ((w.alloc (.cells (bdA ⟨ra, rc, pa, pc, ea, ec, ta, tc, ia, ic, oa, oc, ma, mc⟩ s) 36)).alloc (.cells zeroB 36)) (w.heap.size + 1) zeroB 36 := Blk.new _ _ _ _ (by simp)
  have g0 : Grew w ((w.alloc (.cells (bdA ⟨ra, rc, pa, pc, ea, ec, ta, tc, ia, ic, oa, oc, ma, mc⟩ s) 36)).alloc (.cells zeroB 36)) := ((Grew.refl w).alloc _).alloc _
  generalize ((w.alloc (.cells (bdA ⟨ra, rc, pa, pc, ea, ec, ta, tc, ia, ic, oa, oc, ma, mc⟩ s) 36)).alloc (.cells zeroB 36)) = w0 at *
  have nAR : w.heap.size ≠ w.heap.size + 1 := by omega
  have lA : w.heap.size ≤ w.heap.size := Nat.le_refl _
  have lR : w.heap.size ≤ w.heap.size + 1 := Nat.le_succ _
  generalize w.heap.size + 1 = R at *
  generalize hZ : w.heap.size = A at *
  have HZ := Lib.hid hZ
  clear hZ
  have LA : Hid (w.heap.size ≤ A) := Lib.hid (by rw [HZ.out]; exact lA)
  have LR : Hid (w.heap.size ≤ R) := Lib.hid (by rw [HZ.out]; exact lR)
  have y : w0.cell? ⟨A, 0, none⟩ = some (.slice ra s.r.length rc) := kA.cell 0
  go_wp2_with fail
  refine (cloneB_c (by have := HK.out.r; omega) (HR.out.grew g0)).mono ?_
  rintro e v0 ⟨br, zr, rfl, Hr, g1⟩
  replace kA := kA.grew g1
  replace kR := kR.grew g1
  replace g0 := g0.trans g1
  clear y g1
  have y : v0.cell? ⟨A, 0, none⟩ = some (.slice ra s.r.length rc) := kA.cell 0
  have f := kA.free 0
  go_upto_region 2 with fail
  clear y f
  have oo := Only.set v0 A 0 (.slice br s.r.length zr)
  replace Hr := Lib.hid (Hr.out.only oo kA (by decide))
  replace kR := kR.only oo nAR.symm
  replace g0 := oo.grew g0 LA.out
  replace kA := kA.set (o := 0) (.slice br s.r.length zr)
  generalize v0.setCell ⟨A, 0, none⟩ (.slice br s.r.length zr) = w1 at *
  replace kA : Blk w1 A (bdA ⟨br, zr, pa, pc, ea, ec, ta, tc, ia, ic, oa, oc, ma, mc⟩ s) 36 := kA
  clear oo
  have HB1 : Hid (Bd w1 ⟨br, zr, pa, pc, ea, ec, ta, tc, ia, ic, oa, oc, ma, mc⟩ s) := Lib.hid ⟨Hr.out.buf HR.out.ok, HB.out.p.grew g0, HB.out.u.grew g0, HB.out.m.grew g0⟩
  go_wp2_with (refine ld_bd rfl (.tmp 1) rfl _ rfl kA (by rfl) ?_)
  refine (ownD_c HK.out HB1.out).mono ?_
  rintro e v2 ⟨x', rfl, H, g1⟩
  replace kA := kA.grew g1
  replace kR := kR.grew g1
  replace g0 := g0.trans g1
  go_wp2_with (refine st_bd rfl (.tmp 2) (.tmp 10) rfl rfl x' s kR rfl (by rfl) (by rfl) ?_; intro wz kz oz)
  exact bodyPost_ret (v := bdV x' s) (results_bd (p := 2) Tryz.results25 _ _ R kz rfl) rfl ⟨x', rfl, Lib.hid (H.out.only oz kR nb_zero (by decide)), oz.grew g0 LR.out⟩
end Go.Proofs.YtgcfmijkggpemaaGreat
set_option maxRecDepth 4000
set_option linter.unusedVariables false
set_option linter.unusedSimpArgs false
namespace Go.Proofs.YtgcfmijkggpemaaGreat
open Go.RowKit

/-! ### The layers' Store, each in one form -/
theorem clSt {s : BS} (hk : BOk s) {off n y : Int} (h0 : 0 ≤ off) (h1 : off < 18446744073709551616) (y0 : 0 ≤ y) (y1 : y < 18446744073709551616) (w : World) : Calls Tryz.prog 48 #[.agg (clP s), .int .u64 off, .int .i64 n, .int .u64 y] w fun e w' => ∃ T' C' S' ok, e = .returned (.tuple #[.agg #[.int .u64 T', .int .u64 C', .bool S'], .bool ok]) ∧ Hid (ok = false → T' = s.T ∧ C' = s.C ∧ S' = s.S) ∧ Grew w w' := by
  rcases spot_or off n with ⟨p, l, m, h⟩ | h
  · refine (clStore_yes hk.T hk.C s.S y ⟨y0, y1⟩ h (Grew.refl w)).mono ?_
    rintro e w' ⟨rfl, g⟩
    exact ⟨_, _, _, true, rfl, Lib.hid (fun h => by cases h), g⟩
  · refine (clStore_no s.T s.C s.S y h0 h1 h (Grew.refl w)).mono ?_
    rintro e w' ⟨rfl, g⟩
    exact ⟨_, _, _, false, rfl, Lib.hid (fun _ => ⟨rfl, rfl, rfl⟩), g⟩
theorem plSt {x : BX} {s : BS} (hk : BOk s) {off n y : Int} (y0 : 0 ≤ y) (y1 : y < 18446744073709551616) {w : World} (hb : Bd w x s) : Calls Tryz.prog 52 #[.agg (plP x s), .int .u64 off, .int .i64 n, .int .u64 y] w fun e w' => ∃ (p' : PS) (pa' : Option Addr) (pc' : Nat) (ea' : Option Addr) (ec' : Nat) (ta' : Option Addr) (tc' : Nat) (ok : Bool), e = .returned (.tuple #[.agg #[.slice pa' p'.pr.length pc', .int .i64 p'.n, .int .i64 p'.k, .slice ea' p'.en.length ec', .slice ta' p'.th.length tc'], .bool ok]) ∧ Hid (Plr w' 0 (.agg #[.slice pa' p'.pr.length pc', .int .i64 p'.n, .int .i64 p'.k, .slice ea' p'.en.length ec', .slice ta' p'.th.length tc']) p') ∧ Hid (ok = false → p' = s.p) ∧ Grew w w' := by
  refine (store_t ⟨hk.pr, hk.en, hk.th⟩ off n y y0 y1 hb.p).mono ?_
  rintro e w' ⟨v', rfl, H, g⟩
  obtain ⟨a1, a2, a3, a4, a5, a6, rfl⟩ := H.out.pl.shaped
  refine ⟨_, a1, a2, a3, a4, a5, a6, _, rfl, Lib.hid (H.out.low (Nat.zero_le _)), Lib.hid fun h => ?_, g⟩
  have hb' : badB s.p off n = true := by simpa using h
  unfold plStS
  rw [if_pos hb']
theorem uaSt {x : BX} {s : BS} (hk : BOk s) {off n y : Int} (y0 : 0 ≤ y) {w : World} (hb : Bd w x s) : Calls Tryz.prog 56 #[.agg (uaP x s), .int .u64 off, .int .i64 n, .int .u64 y] w fun e w' => ∃ (ia' : Option Addr) (ic' : Nat) (oa' : Option Addr) (oc' : Nat), e = .returned (.tuple #[.agg #[.slice ia' (uaStS s.u off n y).i.length ic', .slice oa' (uaStS s.u off n y).o.length oc', .int .i64 (uaStS s.u off n y).ie, .int .i64 (uaStS s.u off n y).lost], .bool (!uaBadU off n)]) ∧ Hid (Ua w' (.agg #[.slice ia' (uaStS s.u off n y).i.length ic', .slice oa' (uaStS s.u off n y).o.length oc', .int .i64 (uaStS s.u off n y).ie, .int .i64 (uaStS s.u off n y).lost]) (uaStS s.u off n y)) ∧ Grew w w' := by
  refine (uaStore_c (by have := hk.i; omega) (by have := hk.o; omega) off n y y0 hb.u).mono ?_
  rintro e w' ⟨a1, a2, a3, a4, rfl, H, g⟩
  exact ⟨a1, a2, a3, a4, rfl, Lib.hid H.out.ua, g⟩
theorem ncSt {x : BX} {s : BS} (hk : BOk s) (hm : MacOf s.c s.m) {off n y : Int} (h0 : 0 ≤ off) (y0 : 0 ≤ y) {w : World} (hb : Bd w x s) : Calls Tryz.prog 60 #[.agg (ncP x s), .int .u64 off, .int .i64 n, .int .u64 y] w fun e w' => ∃ (c' : Nat → Int) (ma' : Option Addr) (mc' : Nat) (ok : Bool), e = .returned (.tuple #[.agg (ncA c' (.slice ma' s.m.length mc')), .bool ok]) ∧ Hid (Buf w' (.slice ma' s.m.length mc') s.m) ∧ Hid (ok = false → c' = s.c) ∧ Grew w w' := by
  refine (ncStore_c hm hk.m h0 y0 hb.m).mono ?_
  rintro e w' ⟨b, i, rfl, H, g⟩
  refine ⟨_, b, i, _, rfl, H, Lib.hid fun h => ?_, g⟩
  have hb' : badL s.c s.m.length off n = true := by simpa using h
  unfold ncStS
  rw [if_pos hb']
theorem rmSt {x : BX} {s : BS} (hk : BOk s) {off n y : Int} (h0 : 0 ≤ off) (h1 : off < 18446744073709551616) (y0 : 0 ≤ y) (y1 : y < 18446744073709551616) {w : World} (hb : Bd w x s) : Calls Tryz.prog 64 #[.agg (rmP x s), .int .u64 off, .int .i64 n, .int .u64 y] w fun e w' => ∃ (ra' : Option Addr) (rc' : Nat), e = .returned (.tuple #[.agg #[.slice ra' (writeV s.r off n y).length rc'], .bool (sizeV n && insideV s.r.length off n)]) ∧ Hid (Buf w' (.slice ra' (writeV s.r off n y).length rc') (writeV s.r off n y)) ∧ Grew w w' := by
  refine (write_c off n y h0 h1 y0 y1 w hb.r hk.r).mono ?_
  rintro e w' ⟨b, rfl, H, g⟩
  refine ⟨some ⟨b, 0, none⟩, s.r.length, by rw [writeV_length], Lib.hid ?_, g⟩
  rw [writeV_length]
  exact H.buf (writeV_ok off n y hb.r.ok)

set_option maxHeartbeats 2000000 in
theorem clint_place {x : BX} {s : BS} {w : World} (hk : BOk s) (hb : Bd w x s) {A B : Nat} {TA TB : TypeId} {off n y : Int} (kA : Blk w A (bdA x s) TA) (kB : Blk w B #[.int .u64 off] TB) (h0 : 0 ≤ off) (h1 : off < 18446744073709551616) (y0 : 0 ≤ y) (y1 : y < 18446744073709551616) : Calls Tryz.prog 47 #[.int .i64 n, .int .u64 y, .pointer (some ⟨A, 0, none⟩), .pointer (some ⟨B, 0, none⟩)] w fun e w' => ∃ x' T' C' S' ok, e = .returned (.tuple #[bdV x' { s with T := T', C := C', S := S' }, .bool (ok)]) ∧ Hid (Bdr w' x' { s with T := T', C := C', S := S' }) ∧ Hid (ok = false → T' = s.T ∧ C' = s.C ∧ S' = s.S) ∧ Grew w w' := by
  have HK := Lib.hid hk
  have HB := Lib.hid hb
  clear hk hb
  have lA := kA.lt
  have lB := kB.lt
  go_enter Tryz.func47, Tryz.ntmps47
  go_upto_region 1 with fail
  have kR : Blk (w.alloc (.cells zeroB 36)) w.heap.size zeroB 36 := Blk.new _ _ _ _ rfl
  have g0 : Grew w (w.alloc (.cells zeroB 36)) := (Grew.refl w).alloc _
  replace kA := kA.alloc (.cells zeroB 36)
  replace kB := kB.alloc (.cells zeroB 36)
  generalize w.alloc (.cells zeroB 36) = w0 at *
  have nA : A ≠ w.heap.size := by omega
  have nB : B ≠ w.heap.size := by omega
  have lR : w.heap.size ≤ w.heap.size := Nat.le_refl _
  clear lA lB
  generalize hZ : w.heap.size = R at *
  have HZ := Lib.hid hZ
  clear hZ
  have LR : Hid (w.heap.size ≤ R) := Lib.hid (by rw [HZ.out]; exact lR)
  go_wp2_with (refine ld_bd rfl (.tmp 2) rfl _ rfl kA (by rfl) ?_)
  refine (ownB_c HK.out (HB.out.grew g0)).mono ?_
  rintro e w1 ⟨x1, rfl, H1, g1⟩
  replace kA := kA.grew g1
  replace kB := kB.grew g1
  replace kR := kR.grew g1
  replace g0 := g0.trans g1
  have lA := kA.lt
  have lB := kB.lt
  have lR1 := kR.lt
  have lS := g0.size
  go_upto_region 3 with (refine st_bd rfl (.tmp 8) (.tmp 11) rfl rfl x1 s (Blk.new w1 zeroB 36 _ rfl) rfl (by rfl) (by rfl) ?_; intro w2 kL o2)
  have kZ : Blk (w1.alloc (.cells zeroB 36)) w1.heap.size zeroB 36 := Blk.new _ _ _ _ rfl
  replace kA := (kA.alloc (.cells zeroB 36)).only o2 (by omega)
  replace kB := (kB.alloc (.cells zeroB 36)).only o2 (by omega)
  replace kR := (kR.alloc (.cells zeroB 36)).only o2 (by omega)
  have g2 : Grew w w2 := o2.grew (g0.alloc _) lS
  replace H1 := Lib.hid ((H1.out.grew ((Grew.refl w1).alloc _)).only o2 kZ nb_zero (by decide))
  have nL : R ≠ w1.heap.size := by omega
  have nAL : A ≠ w1.heap.size := by omega
  have LL : Hid (w.heap.size ≤ w1.heap.size) := Lib.hid lS
  clear g1 o2 kZ lA lB lR1 lS g0
  generalize w1.heap.size = Lx at *
  have HB2 := Lib.hid (HB.out.grew g2)
  have yB : w2.cell? ⟨B, 0, none⟩ = some (.int .u64 off) := kB.cell 0
  go_wp2_with (first | refine fa_1 rfl (.tmp 2) rfl _ rfl A (by rfl) ?_ | refine ld_clP rfl (.tmp 13) rfl _ rfl kA (by rfl) ?_)
  refine (clSt HK.out h0 h1 y0 y1 _).mono ?_
  rintro e w3 ⟨T', C', S', ok, rfl, HF, g3⟩
  replace kR := kR.grew g3
  replace kL := kL.grew g3
  replace g2 := g2.trans g3
  replace H1 := Lib.hid (H1.out.grew g3)
  clear yB kA kB g3
  go_upto_region 4 with (first | refine fa_1 rfl (.tmp 8) rfl _ rfl Lx (by rfl) ?_ | (refine st_clP rfl (.tmp 21) (.tmp 19) rfl rfl T' C' S' kL (by rfl) (by rfl) ?_; intro w4 kL4 o4))
  replace kR := kR.only o4 nL
  have nbL := nb_bd x1 s
  have H4 : Hid (Bdr w4 x1 { s with T := T', C := C', S := S' }) := Lib.hid ⟨(H1.out.r.only o4 kL nbL), (H1.out.p.only o4 kL (by decide)), (H1.out.u.only o4 kL nbL), (H1.out.m.only o4 kL nbL)⟩
  replace g2 : Grew w w4 := o4.grew g2 LL.out
  clear H1 o4 kL nbL
  go_wp2_with (first | refine ld_bd rfl (.tmp 8) rfl _ rfl kL4 (by rfl) ?_ | (refine st_bd rfl (.tmp 6) (.tmp 22) rfl rfl x1 { s with T := T', C := C', S := S' } kR rfl (by rfl) (by rfl) ?_; intro w5 kR5 o5))
  exact bodyPost_ret (v := .tuple #[bdV x1 { s with T := T', C := C', S := S' }, .bool (ok)]) (results_bb (p := 6) (q := 7) Tryz.results47 _ _ R kR5 rfl) rfl ⟨x1, T', C', S', ok, rfl, Lib.hid (H4.out.only o5 kR nb_zero (by decide)), HF, o5.grew g2 LR.out⟩
set_option maxHeartbeats 2000000 in
theorem plic_place {x : BX} {s : BS} {w : World} (hk : BOk s) (hb : Bd w x s) {A B : Nat} {TA TB : TypeId} {off n y : Int} (kA : Blk w A (bdA x s) TA) (kB : Blk w B #[.int .u64 off] TB) (h0 : 0 ≤ off) (h1 : off < 18446744073709551616) (y0 : 0 ≤ y) (y1 : y < 18446744073709551616) : Calls Tryz.prog 51 #[.int .i64 n, .int .u64 y, .pointer (some ⟨A, 0, none⟩), .pointer (some ⟨B, 0, none⟩)] w fun e w' => ∃ x' p' ok, e = .returned (.tuple #[bdV x' { s with p := p' }, .bool (ok)]) ∧ Hid (Bdr w' x' { s with p := p' }) ∧ Hid (ok = false → p' = s.p) ∧ Grew w w' := by
  have HK := Lib.hid hk
  have HB := Lib.hid hb
  clear hk hb
  have lA := kA.lt
  have lB := kB.lt
  go_enter Tryz.func51, Tryz.ntmps51
  go_upto_region 1 with fail
  have kR : Blk (w.alloc (.cells zeroB 36)) w.heap.size zeroB 36 := Blk.new _ _ _ _ rfl
  have g0 : Grew w (w.alloc (.cells zeroB 36)) := (Grew.refl w).alloc _
  replace kA := kA.alloc (.cells zeroB 36)
  replace kB := kB.alloc (.cells zeroB 36)
  generalize w.alloc (.cells zeroB 36) = w0 at *
  have nA : A ≠ w.heap.size := by omega
  have nB : B ≠ w.heap.size := by omega
  have lR : w.heap.size ≤ w.heap.size := Nat.le_refl _
  clear lA lB
  generalize hZ : w.heap.size = R at *
  have HZ := Lib.hid hZ
  clear hZ
  have LR : Hid (w.heap.size ≤ R) := Lib.hid (by rw [HZ.out]; exact lR)
  go_wp2_with (refine ld_bd rfl (.tmp 2) rfl _ rfl kA (by rfl) ?_)
  refine (ownB_c HK.out (HB.out.grew g0)).mono ?_
  rintro e w1 ⟨x1, rfl, H1, g1⟩
  replace kA := kA.grew g1
  replace kB := kB.grew g1
  replace kR := kR.grew g1
  replace g0 := g0.trans g1
  have lA := kA.lt
  have lB := kB.lt
  have lR1 := kR.lt
  have lS := g0.size
  go_upto_region 3 with (refine st_bd rfl (.tmp 8) (.tmp 11) rfl rfl x1 s (Blk.new w1 zeroB 36 _ rfl) rfl (by rfl) (by rfl) ?_; intro w2 kL o2)
  have kZ : Blk (w1.alloc (.cells zeroB 36)) w1.heap.size zeroB 36 := Blk.new _ _ _ _ rfl
  replace kA := (kA.alloc (.cells zeroB 36)).only o2 (by omega)
  replace kB := (kB.alloc (.cells zeroB 36)).only o2 (by omega)
  replace kR := (kR.alloc (.cells zeroB 36)).only o2 (by omega)
  have g2 : Grew w w2 := o2.grew (g0.alloc _) lS
  replace H1 := Lib.hid ((H1.out.grew ((Grew.refl w1).alloc _)).only o2 kZ nb_zero (by decide))
  have nL : R ≠ w1.heap.size := by omega
  have nAL : A ≠ w1.heap.size := by omega
  have LL : Hid (w.heap.size ≤ w1.heap.size) := Lib.hid lS
  clear g1 o2 kZ lA lB lR1 lS g0
  generalize w1.heap.size = Lx at *
  have HB2 := Lib.hid (HB.out.grew g2)
  have yB : w2.cell? ⟨B, 0, none⟩ = some (.int .u64 off) := kB.cell 0
  go_wp2_with (first | refine fa_2 rfl (.tmp 2) rfl _ rfl A (by rfl) ?_ | refine ld_plP rfl (.tmp 13) rfl _ rfl kA (by rfl) ?_)
  refine (plSt HK.out y0 y1 HB2.out).mono ?_
  rintro e w3 ⟨p', pa', pc', ea', ec', ta', tc', ok, rfl, HD, HF, g3⟩
  replace kR := kR.grew g3
  replace kL := kL.grew g3
  replace g2 := g2.trans g3
  replace H1 := Lib.hid (H1.out.grew g3)
  clear yB kA kB g3
  go_upto_region 4 with (first | refine fa_2 rfl (.tmp 8) rfl _ rfl Lx (by rfl) ?_ | (refine st_plP rfl (.tmp 21) (.tmp 19) rfl rfl p' pa' pc' ea' ec' ta' tc' kL (by rfl) (by rfl) ?_; intro w4 kL4 o4))
  replace kR := kR.only o4 nL
  have nbL := nb_bd x1 s
  have H4 : Hid (Bdr w4 { x1 with pa := pa', pc := pc', ea := ea', ec := ec', ta := ta', tc := tc' } { s with p := p' }) := Lib.hid ⟨(H1.out.r.only o4 kL nbL), (HD.out.only o4 kL (by decide)), (H1.out.u.only o4 kL nbL), (H1.out.m.only o4 kL nbL)⟩
  replace g2 : Grew w w4 := o4.grew g2 LL.out
  clear H1 o4 kL nbL HD
  go_wp2_with (first | refine ld_bd rfl (.tmp 8) rfl _ rfl kL4 (by rfl) ?_ | (refine st_bd rfl (.tmp 6) (.tmp 22) rfl rfl { x1 with pa := pa', pc := pc', ea := ea', ec := ec', ta := ta', tc := tc' } { s with p := p' } kR rfl (by rfl) (by rfl) ?_; intro w5 kR5 o5))
  exact bodyPost_ret (v := .tuple #[bdV { x1 with pa := pa', pc := pc', ea := ea', ec := ec', ta := ta', tc := tc' } { s with p := p' }, .bool (ok)]) (results_bb (p := 6) (q := 7) Tryz.results51 _ _ R kR5 rfl) rfl ⟨{ x1 with pa := pa', pc := pc', ea := ea', ec := ec', ta := ta', tc := tc' }, p', ok, rfl, Lib.hid (H4.out.only o5 kR nb_zero (by decide)), HF, o5.grew g2 LR.out⟩
set_option maxHeartbeats 2000000 in
theorem uart_place {x : BX} {s : BS} {w : World} (hk : BOk s) (hb : Bd w x s) {A B : Nat} {TA TB : TypeId} {off n y : Int} (kA : Blk w A (bdA x s) TA) (kB : Blk w B #[.int .u64 off] TB) (h0 : 0 ≤ off) (h1 : off < 18446744073709551616) (y0 : 0 ≤ y) (y1 : y < 18446744073709551616) : Calls Tryz.prog 55 #[.int .i64 n, .int .u64 y, .pointer (some ⟨A, 0, none⟩), .pointer (some ⟨B, 0, none⟩)] w fun e w' => ∃ x', e = .returned (.tuple #[bdV x' { s with u := uaStS s.u off n y }, .bool (!uaBadU off n)]) ∧ Hid (Bdr w' x' { s with u := uaStS s.u off n y }) ∧ Grew w w' := by
  have HK := Lib.hid hk
  have HB := Lib.hid hb
  clear hk hb
  have lA := kA.lt
  have lB := kB.lt
  go_enter Tryz.func55, Tryz.ntmps55
  go_upto_region 1 with fail
  have kR : Blk (w.alloc (.cells zeroB 36)) w.heap.size zeroB 36 := Blk.new _ _ _ _ rfl
  have g0 : Grew w (w.alloc (.cells zeroB 36)) := (Grew.refl w).alloc _
  replace kA := kA.alloc (.cells zeroB 36)
  replace kB := kB.alloc (.cells zeroB 36)
  generalize w.alloc (.cells zeroB 36) = w0 at *
  have nA : A ≠ w.heap.size := by omega
  have nB : B ≠ w.heap.size := by omega
  have lR : w.heap.size ≤ w.heap.size := Nat.le_refl _
  clear lA lB
  generalize hZ : w.heap.size = R at *
  have HZ := Lib.hid hZ
  clear hZ
  have LR : Hid (w.heap.size ≤ R) := Lib.hid (by rw [HZ.out]; exact lR)
  go_wp2_with (refine ld_bd rfl (.tmp 2) rfl _ rfl kA (by rfl) ?_)
  refine (ownB_c HK.out (HB.out.grew g0)).mono ?_
  rintro e w1 ⟨x1, rfl, H1, g1⟩
  replace kA := kA.grew g1
  replace kB := kB.grew g1
  replace kR := kR.grew g1
  replace g0 := g0.trans g1
  have lA := kA.lt
  have lB := kB.lt
  have lR1 := kR.lt
  have lS := g0.size
  go_upto_region 3 with (refine st_bd rfl (.tmp 8) (.tmp 11) rfl rfl x1 s (Blk.new w1 zeroB 36 _ rfl) rfl (by rfl) (by rfl) ?_; intro w2 kL o2)
  have kZ : Blk (w1.alloc (.cells zeroB 36)) w1.heap.size zeroB 36 := Blk.new _ _ _ _ rfl
  replace kA := (kA.alloc (.cells zeroB 36)).only o2 (by omega)
  replace kB := (kB.alloc (.cells zeroB 36)).only o2 (by omega)
  replace kR := (kR.alloc (.cells zeroB 36)).only o2 (by omega)
  have g2 : Grew w w2 := o2.grew (g0.alloc _) lS
  replace H1 := Lib.hid ((H1.out.grew ((Grew.refl w1).alloc _)).only o2 kZ nb_zero (by decide))
  have nL : R ≠ w1.heap.size := by omega
  have nAL : A ≠ w1.heap.size := by omega
  have LL : Hid (w.heap.size ≤ w1.heap.size) := Lib.hid lS
  clear g1 o2 kZ lA lB lR1 lS g0
  generalize w1.heap.size = Lx at *
  have HB2 := Lib.hid (HB.out.grew g2)
  have yB : w2.cell? ⟨B, 0, none⟩ = some (.int .u64 off) := kB.cell 0
  go_wp2_with (first | refine fa_3 rfl (.tmp 2) rfl _ rfl A (by rfl) ?_ | refine ld_uaP rfl (.tmp 13) rfl _ rfl kA (by rfl) ?_)
  refine (uaSt HK.out y0 HB2.out).mono ?_
  rintro e w3 ⟨ia', ic', oa', oc', rfl, HD, g3⟩
  replace kR := kR.grew g3
  replace kL := kL.grew g3
  replace g2 := g2.trans g3
  replace H1 := Lib.hid (H1.out.grew g3)
  clear yB kA kB g3
  go_upto_region 4 with (first | refine fa_3 rfl (.tmp 8) rfl _ rfl Lx (by rfl) ?_ | (refine st_uaP rfl (.tmp 21) (.tmp 19) rfl rfl (uaStS s.u off n y) ia' ic' oa' oc' kL (by rfl) (by rfl) ?_; intro w4 kL4 o4))
  replace kR := kR.only o4 nL
  have nbL := nb_bd x1 s
  have H4 : Hid (Bdr w4 { x1 with ia := ia', ic := ic', oa := oa', oc := oc' } { s with u := uaStS s.u off n y }) := Lib.hid ⟨(H1.out.r.only o4 kL nbL), (H1.out.p.only o4 kL (by decide)), (HD.out.only o4 kL nbL), (H1.out.m.only o4 kL nbL)⟩
  replace g2 : Grew w w4 := o4.grew g2 LL.out
  clear H1 o4 kL nbL HD
  go_wp2_with (first | refine ld_bd rfl (.tmp 8) rfl _ rfl kL4 (by rfl) ?_ | (refine st_bd rfl (.tmp 6) (.tmp 22) rfl rfl { x1 with ia := ia', ic := ic', oa := oa', oc := oc' } { s with u := uaStS s.u off n y } kR rfl (by rfl) (by rfl) ?_; intro w5 kR5 o5))
  exact bodyPost_ret (v := .tuple #[bdV { x1 with ia := ia', ic := ic', oa := oa', oc := oc' } { s with u := uaStS s.u off n y }, .bool (!uaBadU off n)]) (results_bb (p := 6) (q := 7) Tryz.results55 _ _ R kR5 rfl) rfl ⟨{ x1 with ia := ia', ic := ic', oa := oa', oc := oc' }, rfl, Lib.hid (H4.out.only o5 kR nb_zero (by decide)), o5.grew g2 LR.out⟩
set_option maxHeartbeats 2000000 in
theorem nic_place {x : BX} {s : BS} {w : World} (hk : BOk s) (hm : MacOf s.c s.m) (hb : Bd w x s) {A B : Nat} {TA TB : TypeId} {off n y : Int} (kA : Blk w A (bdA x s) TA) (kB : Blk w B #[.int .u64 off] TB) (h0 : 0 ≤ off) (h1 : off < 18446744073709551616) (y0 : 0 ≤ y) (y1 : y < 18446744073709551616) : Calls Tryz.prog 59 #[.int .i64 n, .int .u64 y, .pointer (some ⟨A, 0, none⟩), .pointer (some ⟨B, 0, none⟩)] w fun e w' => ∃ x' c' ok, e = .returned (.tuple #[bdV x' { s with c := c', m := s.m }, .bool (ok)]) ∧ Hid (Bdr w' x' { s with c := c', m := s.m }) ∧ Hid (ok = false → c' = s.c) ∧ Grew w w' := by
  have HK := Lib.hid hk
  have HB := Lib.hid hb
  have HMO := Lib.hid hm
  clear hk hb hm
  have lA := kA.lt
  have lB := kB.lt
  go_enter Tryz.func59, Tryz.ntmps59
  go_upto_region 1 with fail
  have kR : Blk (w.alloc (.cells zeroB 36)) w.heap.size zeroB 36 := Blk.new _ _ _ _ rfl
  have g0 : Grew w (w.alloc (.cells zeroB 36)) := (Grew.refl w).alloc _
  replace kA := kA.alloc (.cells zeroB 36)
  replace kB := kB.alloc (.cells zeroB 36)
  generalize w.alloc (.cells zeroB 36) = w0 at *
  have nA : A ≠ w.heap.size := by omega
  have nB : B ≠ w.heap.size := by omega
  have lR : w.heap.size ≤ w.heap.size := Nat.le_refl _
  clear lA lB
  generalize hZ : w.heap.size = R at *
  have HZ := Lib.hid hZ
  clear hZ
  have LR : Hid (w.heap.size ≤ R) := Lib.hid (by rw [HZ.out]; exact lR)
  go_wp2_with (refine ld_bd rfl (.tmp 2) rfl _ rfl kA (by rfl) ?_)
  refine (ownB_c HK.out (HB.out.grew g0)).mono ?_
  rintro e w1 ⟨x1, rfl, H1, g1⟩
  replace kA := kA.grew g1
  replace kB := kB.grew g1
  replace kR := kR.grew g1
  replace g0 := g0.trans g1
  have lA := kA.lt
  have lB := kB.lt
  have lR1 := kR.lt
  have lS := g0.size
  go_upto_region 3 with (refine st_bd rfl (.tmp 8) (.tmp 11) rfl rfl x1 s (Blk.new w1 zeroB 36 _ rfl) rfl (by rfl) (by rfl) ?_; intro w2 kL o2)
  have kZ : Blk (w1.alloc (.cells zeroB 36)) w1.heap.size zeroB 36 := Blk.new _ _ _ _ rfl
  replace kA := (kA.alloc (.cells zeroB 36)).only o2 (by omega)
  replace kB := (kB.alloc (.cells zeroB 36)).only o2 (by omega)
  replace kR := (kR.alloc (.cells zeroB 36)).only o2 (by omega)
  have g2 : Grew w w2 := o2.grew (g0.alloc _) lS
  replace H1 := Lib.hid ((H1.out.grew ((Grew.refl w1).alloc _)).only o2 kZ nb_zero (by decide))
  have nL : R ≠ w1.heap.size := by omega
  have nAL : A ≠ w1.heap.size := by omega
  have LL : Hid (w.heap.size ≤ w1.heap.size) := Lib.hid lS
  clear g1 o2 kZ lA lB lR1 lS g0
  generalize w1.heap.size = Lx at *
  have HB2 := Lib.hid (HB.out.grew g2)
  have yB : w2.cell? ⟨B, 0, none⟩ = some (.int .u64 off) := kB.cell 0
  go_wp2_with (first | refine fa_4 rfl (.tmp 2) rfl _ rfl A (by rfl) ?_ | refine ld_nnP rfl (.tmp 13) rfl _ rfl kA (by rfl) ?_)
  refine (ncSt HK.out HMO.out h0 y0 HB2.out).mono ?_
  rintro e w3 ⟨c', ma', mc', ok, rfl, HD, HF, g3⟩
  replace kR := kR.grew g3
  replace kL := kL.grew g3
  replace g2 := g2.trans g3
  replace H1 := Lib.hid (H1.out.grew g3)
  clear yB kA kB g3
  go_upto_region 4 with (first | refine fa_4 rfl (.tmp 8) rfl _ rfl Lx (by rfl) ?_ | (refine st_nnP rfl (.tmp 21) (.tmp 19) rfl rfl c' s.m ma' mc' kL (by rfl) (by rfl) ?_; intro w4 kL4 o4))
  replace kR := kR.only o4 nL
  have nbL := nb_bd x1 s
  have H4 : Hid (Bdr w4 { x1 with ma := ma', mc := mc' } { s with c := c', m := s.m }) := Lib.hid ⟨(H1.out.r.only o4 kL nbL), (H1.out.p.only o4 kL (by decide)), (H1.out.u.only o4 kL nbL), (HD.out.only o4 kL nbL)⟩
  replace g2 : Grew w w4 := o4.grew g2 LL.out
  clear H1 o4 kL nbL HD
  go_wp2_with (first | refine ld_bd rfl (.tmp 8) rfl _ rfl kL4 (by rfl) ?_ | (refine st_bd rfl (.tmp 6) (.tmp 22) rfl rfl { x1 with ma := ma', mc := mc' } { s with c := c', m := s.m } kR rfl (by rfl) (by rfl) ?_; intro w5 kR5 o5))
  exact bodyPost_ret (v := .tuple #[bdV { x1 with ma := ma', mc := mc' } { s with c := c', m := s.m }, .bool (ok)]) (results_bb (p := 6) (q := 7) Tryz.results59 _ _ R kR5 rfl) rfl ⟨{ x1 with ma := ma', mc := mc' }, c', ok, rfl, Lib.hid (H4.out.only o5 kR nb_zero (by decide)), HF, o5.grew g2 LR.out⟩
set_option maxHeartbeats 2000000 in
theorem ram_place {x : BX} {s : BS} {w : World} (hk : BOk s) (hb : Bd w x s) {A B : Nat} {TA TB : TypeId} {off n y : Int} (kA : Blk w A (bdA x s) TA) (kB : Blk w B #[.int .u64 off] TB) (h0 : 0 ≤ off) (h1 : off < 18446744073709551616) (y0 : 0 ≤ y) (y1 : y < 18446744073709551616) : Calls Tryz.prog 63 #[.int .i64 n, .int .u64 y, .pointer (some ⟨A, 0, none⟩), .pointer (some ⟨B, 0, none⟩)] w fun e w' => ∃ x', e = .returned (.tuple #[bdV x' { s with r := writeV s.r off n y }, .bool (sizeV n && insideV s.r.length off n)]) ∧ Hid (Bdr w' x' { s with r := writeV s.r off n y }) ∧ Grew w w' := by
  have HK := Lib.hid hk
  have HB := Lib.hid hb
  clear hk hb
  have lA := kA.lt
  have lB := kB.lt
  go_enter Tryz.func63, Tryz.ntmps63
  go_upto_region 1 with fail
  have kR : Blk (w.alloc (.cells zeroB 36)) w.heap.size zeroB 36 := Blk.new _ _ _ _ rfl
  have g0 : Grew w (w.alloc (.cells zeroB 36)) := (Grew.refl w).alloc _
  replace kA := kA.alloc (.cells zeroB 36)
  replace kB := kB.alloc (.cells zeroB 36)
  generalize w.alloc (.cells zeroB 36) = w0 at *
  have nA : A ≠ w.heap.size := by omega
  have nB : B ≠ w.heap.size := by omega
  have lR : w.heap.size ≤ w.heap.size := Nat.le_refl _
  clear lA lB
  generalize hZ : w.heap.size = R at *
  have HZ := Lib.hid hZ
  clear hZ
  have LR : Hid (w.heap.size ≤ R) := Lib.hid (by rw [HZ.out]; exact lR)
  go_wp2_with (refine ld_bd rfl (.tmp 2) rfl _ rfl kA (by rfl) ?_)
  refine (ownD_c HK.out (HB.out.grew g0)).mono ?_
  rintro e w1 ⟨x1, rfl, H1, g1⟩
  replace kA := kA.grew g1
  replace kB := kB.grew g1
  replace kR := kR.grew g1
  replace g0 := g0.trans g1
  have lA := kA.lt
  have lB := kB.lt
  have lR1 := kR.lt
  have lS := g0.size
  go_upto_region 3 with (refine st_bd rfl (.tmp 8) (.tmp 11) rfl rfl x1 s (Blk.new w1 zeroB 36 _ rfl) rfl (by rfl) (by rfl) ?_; intro w2 kL o2)
  have kZ : Blk (w1.alloc (.cells zeroB 36)) w1.heap.size zeroB 36 := Blk.new _ _ _ _ rfl
  replace kA := (kA.alloc (.cells zeroB 36)).only o2 (by omega)
  replace kB := (kB.alloc (.cells zeroB 36)).only o2 (by omega)
  replace kR := (kR.alloc (.cells zeroB 36)).only o2 (by omega)
  have g2 : Grew w w2 := o2.grew (g0.alloc _) lS
  replace H1 := Lib.hid ((H1.out.grew ((Grew.refl w1).alloc _)).only o2 kZ nb_zero (by decide))
  have nL : R ≠ w1.heap.size := by omega
  have nAL : A ≠ w1.heap.size := by omega
  have LL : Hid (w.heap.size ≤ w1.heap.size) := Lib.hid lS
  clear g1 o2 kZ lA lB lR1 lS g0
  generalize w1.heap.size = Lx at *
  have HB2 := Lib.hid (HB.out.grew g2)
  have yB : w2.cell? ⟨B, 0, none⟩ = some (.int .u64 off) := kB.cell 0
  go_wp2_with (first | refine fa_0 rfl (.tmp 2) rfl _ rfl A (by rfl) ?_ | refine ld_rmP rfl (.tmp 13) rfl _ rfl kA (by rfl) ?_)
  refine (rmSt HK.out h0 h1 y0 y1 HB2.out).mono ?_
  rintro e w3 ⟨ra', rc', rfl, HD, g3⟩
  replace kR := kR.grew g3
  replace kL := kL.grew g3
  replace g2 := g2.trans g3
  replace H1 := Lib.hid (H1.out.grew g3)
  clear yB kA kB g3
  go_upto_region 4 with (first | refine fa_0 rfl (.tmp 8) rfl _ rfl Lx (by rfl) ?_ | (refine st_rmP rfl (.tmp 21) (.tmp 19) rfl rfl ra' rc' (writeV s.r off n y) kL (by rfl) (by rfl) ?_; intro w4 kL4 o4))
  replace kR := kR.only o4 nL
  have nbL := nb_bd x1 s
  have H4 : Hid (Bdr w4 { x1 with ra := ra', rc := rc' } { s with r := writeV s.r off n y }) := Lib.hid ⟨(HD.out.only o4 kL nbL), (H1.out.p.only o4 kL (by decide)), (H1.out.u.only o4 kL nbL), (H1.out.m.only o4 kL nbL)⟩
  replace g2 : Grew w w4 := o4.grew g2 LL.out
  clear H1 o4 kL nbL HD
  go_wp2_with (first | refine ld_bd rfl (.tmp 8) rfl _ rfl kL4 (by rfl) ?_ | (refine st_bd rfl (.tmp 6) (.tmp 22) rfl rfl { x1 with ra := ra', rc := rc' } { s with r := writeV s.r off n y } kR rfl (by rfl) (by rfl) ?_; intro w5 kR5 o5))
  exact bodyPost_ret (v := .tuple #[bdV { x1 with ra := ra', rc := rc' } { s with r := writeV s.r off n y }, .bool (sizeV n && insideV s.r.length off n)]) (results_bb (p := 6) (q := 7) Tryz.results63 _ _ R kR5 rfl) rfl ⟨{ x1 with ra := ra', rc := rc' }, rfl, Lib.hid (H4.out.only o5 kR nb_zero (by decide)), o5.grew g2 LR.out⟩
set_option maxHeartbeats 2000000 in
theorem ram_at {x : BX} {s : BS} {w : World} (hk : BOk s) (hb : Bd w x s) {A B : Nat} {TA TB : TypeId} {off n : Int} (kA : Blk w A (bdA x s) TA) (kB : Blk w B #[.int .u64 off] TB) (h0 : 0 ≤ off) (h1 : off < 18446744073709551616) (n0 : -9223372036854775808 ≤ n) (n1 : n ≤ 9223372036854775807) : Calls Tryz.prog 61 #[.int .i64 n, .pointer (some ⟨A, 0, none⟩), .pointer (some ⟨B, 0, none⟩)] w fun e w' => ∃ x', e = .returned (.tuple #[.int .u64 (readV s.r off n), bdV x' s, .bool (sizeV n && insideV s.r.length off n)]) ∧ Hid (Bdr w' x' s) ∧ Grew w w' := by
  have HK := Lib.hid hk
  have HB := Lib.hid hb
  clear hk hb
  have lA := kA.lt
  have lB := kB.lt
  go_enter Tryz.func61, Tryz.ntmps61
  go_upto_region 1 with fail
  have kR : Blk (w.alloc (.cells zeroB 36)) w.heap.size zeroB 36 := Blk.new _ _ _ _ rfl
  have g0 : Grew w (w.alloc (.cells zeroB 36)) := (Grew.refl w).alloc _
  replace kA := kA.alloc (.cells zeroB 36)
  replace kB := kB.alloc (.cells zeroB 36)
  generalize w.alloc (.cells zeroB 36) = w0 at *
  have lR : w.heap.size ≤ w.heap.size := Nat.le_refl _
  clear lA lB
  generalize hZ : w.heap.size = R at *
  have HZ := Lib.hid hZ
  clear hZ
  have LR : Hid (w.heap.size ≤ R) := Lib.hid (by rw [HZ.out]; exact lR)
  have HB0 := Lib.hid (HB.out.grew g0)
  have yB : w0.cell? ⟨B, 0, none⟩ = some (.int .u64 off) := kB.cell 0
  go_wp2_with (first | refine fa_0 rfl (.tmp 1) rfl _ rfl A (by rfl) ?_ | refine ld_rmP rfl (.tmp 10) rfl _ rfl kA (by rfl) ?_)
  refine (read_c off n h0 h1 n0 n1 _ HB0.out.r).mono ?_
  rintro e w1 ⟨rfl, g1⟩
  replace kA := kA.grew g1
  replace kR := kR.grew g1
  replace g0 := g0.trans g1
  clear g1 yB kB
  go_wp2_with (refine ld_bd rfl (.tmp 1) rfl _ rfl kA (by rfl) ?_)
  refine (ownB_c HK.out (HB.out.grew g0)).mono ?_
  rintro e w2 ⟨x1, rfl, H1, g1⟩
  replace kR := kR.grew g1
  replace g0 := g0.trans g1
  clear g1 kA
  go_wp2_with (refine st_bd rfl (.tmp 5) (.tmp 19) rfl rfl x1 s kR rfl (by rfl) (by rfl) ?_; intro w5 kR5 o5)
  exact bodyPost_ret (v := .tuple #[.int .u64 (readV s.r off n), bdV x1 s, .bool (sizeV n && insideV s.r.length off n)]) (results_xbb (r := 4) (p := 5) (q := 6) Tryz.results61 _ _ R kR5 rfl) rfl ⟨x1, rfl, Lib.hid (H1.out.only o5 kR nb_zero (by decide)), o5.grew g0 LR.out⟩
end Go.Proofs.YtgcfmijkggpemaaGreat
set_option maxRecDepth 4000
set_option linter.unusedVariables false
set_option linter.unusedSimpArgs false
namespace Go.Proofs.YtgcfmijkggpemaaGreat
open Go.RowKit

theorem Blk.ne {w : World} {a b : Nat} {cs ds : Array Value} {S T : TypeId} (h : Blk w a cs S) (k : Blk w b ds T) (hT : S ≠ T) : a ≠ b := by
  rintro rfl
  unfold Blk at h k
  rw [h] at k
  simp only [Option.some.injEq, Obj.cells.injEq] at k
  exact hT k.2.1
/-- Is an address one of n from b on? -/
def inB (x b n : Int) : Bool := decide (b ≤ x) && decide (x - b < n)
theorem isWithin_c (x b n : Int) (h0 : 0 ≤ x) (h1 : x < 18446744073709551616) (b0 : 0 ≤ b) (w : World) : Calls Tryz.prog 29 #[.int .u64 x, .int .u64 b, .int .u64 n] w fun e w' => e = .returned (.bool (inB x b n)) ∧ w = w' := by
  have hw : b ≤ x → IntKind.u64.wrap (x - b) = x - b := fun h => IntWalk.u64_in _ (by omega)
  unfold inB
  cases d1 : decide (b ≤ x)
  · have e1 : ¬ b ≤ x := by simpa using d1
    clear d1 hw
    go_enter Tryz.func29, Tryz.ntmps29
    go_wp2_with fail
    go_ret
    exact ⟨rfl, rfl⟩
  · have e1 : b ≤ x := by simpa using d1
    replace hw := hw e1
    clear d1
    cases d2 : decide (x - b < n)
    · have e2 : ¬ x - b < n := by simpa using d2
      clear d2
      go_enter Tryz.func29, Tryz.ntmps29
      go_wp2_with fail
      go_ret
      exact ⟨rfl, rfl⟩
    · have e2 : x - b < n := by simpa using d2
      clear d2
      go_enter Tryz.func29, Tryz.ntmps29
      go_wp2_with fail
      go_ret
      exact ⟨rfl, rfl⟩

set_option maxHeartbeats 1000000 in
theorem clintPlace_c (x : BX) (s : BS) (off : Int) (w : World) : Calls Tryz.prog 30 #[bdV x s, .int .u64 off] w fun e w' => ∃ A B, e = .returned (.agg #[.func (.func 45) #[] #[.pointer (some ⟨A, 0, none⟩), .pointer (some ⟨B, 0, none⟩)], .func (.func 47) #[] #[.pointer (some ⟨A, 0, none⟩), .pointer (some ⟨B, 0, none⟩)]]) ∧ Blk w' A (bdA x s) 36 ∧ Blk w' B #[.int .u64 off] 25 ∧ Grew w w' := by
  go_enter Tryz.func30, Tryz.ntmps30
  go_upto_region 1 with fail
  have kA : Blk (((w.alloc (.cells (bdA x s) 36)).alloc (.cells #[.int .u64 off] 25)).alloc (.cells #[.nilFunc, .nilFunc] 56)) w.heap.size (bdA x s) 36 := ((Blk.new _ _ _ _ rfl).alloc _).alloc _
  have kB : Blk (((w.alloc (.cells (bdA x s) 36)).alloc (.cells #[.int .u64 off] 25)).alloc (.cells #[.nilFunc, .nilFunc] 56)) (w.heap.size + 1) #[.int .u64 off] 25 := (Blk.new _ _ _ _ (by simp)).alloc _
  have kR : Blk (((w.alloc (.cells (bdA x s) 36)).alloc (.cells #[.int .u64 off] 25)).alloc (.cells #[.nilFunc, .nilFunc] 56)) (w.heap.size + 2) #[.nilFunc, .nilFunc] 56 := Blk.new _ _ _ _ (by simp)
  have g0 : Grew w (((w.alloc (.cells (bdA x s) 36)).alloc (.cells #[.int .u64 off] 25)).alloc (.cells #[.nilFunc, .nilFunc] 56)) := (((Grew.refl w).alloc _).alloc _).alloc _
  generalize (((w.alloc (.cells (bdA x s) 36)).alloc (.cells #[.int .u64 off] 25)).alloc (.cells #[.nilFunc, .nilFunc] 56)) = w0 at *
  have f0 := kR.free 0
  have f1 := kR.free 1
  have y0 := kR.cell 0
  have y1 := kR.cell 1
  go_wp2_with fail
  have kA2 := (kA.other (c := w.heap.size + 2) (o := 0) (by omega) (.func (.func 45) #[] #[.pointer (some ⟨w.heap.size, 0, none⟩), .pointer (some ⟨(w.heap.size + 1), 0, none⟩)])).other (c := w.heap.size + 2) (o := 1) (by omega) (.func (.func 47) #[] #[.pointer (some ⟨w.heap.size, 0, none⟩), .pointer (some ⟨(w.heap.size + 1), 0, none⟩)])
  have kB2 := (kB.other (c := w.heap.size + 2) (o := 0) (by omega) (.func (.func 45) #[] #[.pointer (some ⟨w.heap.size, 0, none⟩), .pointer (some ⟨(w.heap.size + 1), 0, none⟩)])).other (c := w.heap.size + 2) (o := 1) (by omega) (.func (.func 47) #[] #[.pointer (some ⟨w.heap.size, 0, none⟩), .pointer (some ⟨(w.heap.size + 1), 0, none⟩)])
  have kE := (kR.set (o := 0) (.func (.func 45) #[] #[.pointer (some ⟨w.heap.size, 0, none⟩), .pointer (some ⟨(w.heap.size + 1), 0, none⟩)])).set (o := 1) (.func (.func 47) #[] #[.pointer (some ⟨w.heap.size, 0, none⟩), .pointer (some ⟨(w.heap.size + 1), 0, none⟩)])
  have gE := (g0.setCell (b := w.heap.size + 2) (o := 0) (by omega) (.func (.func 45) #[] #[.pointer (some ⟨w.heap.size, 0, none⟩), .pointer (some ⟨(w.heap.size + 1), 0, none⟩)])).setCell (b := w.heap.size + 2) (o := 1) (by omega) (.func (.func 47) #[] #[.pointer (some ⟨w.heap.size, 0, none⟩), .pointer (some ⟨(w.heap.size + 1), 0, none⟩)])
  have z0 := kE.cell 0
  have z1 := kE.cell 1
  exact bodyPost_ret (v := .agg #[.func (.func 45) #[] #[.pointer (some ⟨w.heap.size, 0, none⟩), .pointer (some ⟨(w.heap.size + 1), 0, none⟩)], .func (.func 47) #[] #[.pointer (some ⟨w.heap.size, 0, none⟩), .pointer (some ⟨(w.heap.size + 1), 0, none⟩)]]) (by simp [results, Tryz.results30, go_sem, z0, z1]) rfl ⟨_, _, rfl, kA2, kB2, gE⟩
set_option maxHeartbeats 1000000 in
theorem plicPlace_c (x : BX) (s : BS) (off : Int) (w : World) : Calls Tryz.prog 31 #[bdV x s, .int .u64 off] w fun e w' => ∃ A B, e = .returned (.agg #[.func (.func 49) #[] #[.pointer (some ⟨A, 0, none⟩), .pointer (some ⟨B, 0, none⟩)], .func (.func 51) #[] #[.pointer (some ⟨A, 0, none⟩), .pointer (some ⟨B, 0, none⟩)]]) ∧ Blk w' A (bdA x s) 36 ∧ Blk w' B #[.int .u64 off] 25 ∧ Grew w w' := by
  go_enter Tryz.func31, Tryz.ntmps31
  go_upto_region 1 with fail
  have kA : Blk (((w.alloc (.cells (bdA x s) 36)).alloc (.cells #[.int .u64 off] 25)).alloc (.cells #[.nilFunc, .nilFunc] 56)) w.heap.size (bdA x s) 36 := ((Blk.new _ _ _ _ rfl).alloc _).alloc _
  have kB : Blk (((w.alloc (.cells (bdA x s) 36)).alloc (.cells #[.int .u64 off] 25)).alloc (.cells #[.nilFunc, .nilFunc] 56)) (w.heap.size + 1) #[.int .u64 off] 25 := (Blk.new _ _ _ _ (by simp)).alloc _
  have kR : Blk (((w.alloc (.cells (bdA x s) 36)).alloc (.cells #[.int .u64 off] 25)).alloc (.cells #[.nilFunc, .nilFunc] 56)) (w.heap.size + 2) #[.nilFunc, .nilFunc] 56 := Blk.new _ _ _ _ (by simp)
  have g0 : Grew w (((w.alloc (.cells (bdA x s) 36)).alloc (.cells #[.int .u64 off] 25)).alloc (.cells #[.nilFunc, .nilFunc] 56)) := (((Grew.refl w).alloc _).alloc _).alloc _
  generalize (((w.alloc (.cells (bdA x s) 36)).alloc (.cells #[.int .u64 off] 25)).alloc (.cells #[.nilFunc, .nilFunc] 56)) = w0 at *
  have f0 := kR.free 0
  have f1 := kR.free 1
  have y0 := kR.cell 0
  have y1 := kR.cell 1
  go_wp2_with fail
  have kA2 := (kA.other (c := w.heap.size + 2) (o := 0) (by omega) (.func (.func 49) #[] #[.pointer (some ⟨w.heap.size, 0, none⟩), .pointer (some ⟨(w.heap.size + 1), 0, none⟩)])).other (c := w.heap.size + 2) (o := 1) (by omega) (.func (.func 51) #[] #[.pointer (some ⟨w.heap.size, 0, none⟩), .pointer (some ⟨(w.heap.size + 1), 0, none⟩)])
  have kB2 := (kB.other (c := w.heap.size + 2) (o := 0) (by omega) (.func (.func 49) #[] #[.pointer (some ⟨w.heap.size, 0, none⟩), .pointer (some ⟨(w.heap.size + 1), 0, none⟩)])).other (c := w.heap.size + 2) (o := 1) (by omega) (.func (.func 51) #[] #[.pointer (some ⟨w.heap.size, 0, none⟩), .pointer (some ⟨(w.heap.size + 1), 0, none⟩)])
  have kE := (kR.set (o := 0) (.func (.func 49) #[] #[.pointer (some ⟨w.heap.size, 0, none⟩), .pointer (some ⟨(w.heap.size + 1), 0, none⟩)])).set (o := 1) (.func (.func 51) #[] #[.pointer (some ⟨w.heap.size, 0, none⟩), .pointer (some ⟨(w.heap.size + 1), 0, none⟩)])
  have gE := (g0.setCell (b := w.heap.size + 2) (o := 0) (by omega) (.func (.func 49) #[] #[.pointer (some ⟨w.heap.size, 0, none⟩), .pointer (some ⟨(w.heap.size + 1), 0, none⟩)])).setCell (b := w.heap.size + 2) (o := 1) (by omega) (.func (.func 51) #[] #[.pointer (some ⟨w.heap.size, 0, none⟩), .pointer (some ⟨(w.heap.size + 1), 0, none⟩)])
  have z0 := kE.cell 0
  have z1 := kE.cell 1
  exact bodyPost_ret (v := .agg #[.func (.func 49) #[] #[.pointer (some ⟨w.heap.size, 0, none⟩), .pointer (some ⟨(w.heap.size + 1), 0, none⟩)], .func (.func 51) #[] #[.pointer (some ⟨w.heap.size, 0, none⟩), .pointer (some ⟨(w.heap.size + 1), 0, none⟩)]]) (by simp [results, Tryz.results31, go_sem, z0, z1]) rfl ⟨_, _, rfl, kA2, kB2, gE⟩
set_option maxHeartbeats 1000000 in
theorem uartPlace_c (x : BX) (s : BS) (off : Int) (w : World) : Calls Tryz.prog 32 #[bdV x s, .int .u64 off] w fun e w' => ∃ A B, e = .returned (.agg #[.func (.func 53) #[] #[.pointer (some ⟨A, 0, none⟩), .pointer (some ⟨B, 0, none⟩)], .func (.func 55) #[] #[.pointer (some ⟨A, 0, none⟩), .pointer (some ⟨B, 0, none⟩)]]) ∧ Blk w' A (bdA x s) 36 ∧ Blk w' B #[.int .u64 off] 25 ∧ Grew w w' := by
  go_enter Tryz.func32, Tryz.ntmps32
  go_upto_region 1 with fail
  have kA : Blk (((w.alloc (.cells (bdA x s) 36)).alloc (.cells #[.int .u64 off] 25)).alloc (.cells #[.nilFunc, .nilFunc] 56)) w.heap.size (bdA x s) 36 := ((Blk.new _ _ _ _ rfl).alloc _).alloc _
  have kB : Blk (((w.alloc (.cells (bdA x s) 36)).alloc (.cells #[.int .u64 off] 25)).alloc (.cells #[.nilFunc, .nilFunc] 56)) (w.heap.size + 1) #[.int .u64 off] 25 := (Blk.new _ _ _ _ (by simp)).alloc _
  have kR : Blk (((w.alloc (.cells (bdA x s) 36)).alloc (.cells #[.int .u64 off] 25)).alloc (.cells #[.nilFunc, .nilFunc] 56)) (w.heap.size + 2) #[.nilFunc, .nilFunc] 56 := Blk.new _ _ _ _ (by simp)
  have g0 : Grew w (((w.alloc (.cells (bdA x s) 36)).alloc (.cells #[.int .u64 off] 25)).alloc (.cells #[.nilFunc, .nilFunc] 56)) := (((Grew.refl w).alloc _).alloc _).alloc _
  generalize (((w.alloc (.cells (bdA x s) 36)).alloc (.cells #[.int .u64 off] 25)).alloc (.cells #[.nilFunc, .nilFunc] 56)) = w0 at *
  have f0 := kR.free 0
  have f1 := kR.free 1
  have y0 := kR.cell 0
  have y1 := kR.cell 1
  go_wp2_with fail
  have kA2 := (kA.other (c := w.heap.size + 2) (o := 0) (by omega) (.func (.func 53) #[] #[.pointer (some ⟨w.heap.size, 0, none⟩), .pointer (some ⟨(w.heap.size + 1), 0, none⟩)])).other (c := w.heap.size + 2) (o := 1) (by omega) (.func (.func 55) #[] #[.pointer (some ⟨w.heap.size, 0, none⟩), .pointer (some ⟨(w.heap.size + 1), 0, none⟩)])
  have kB2 := (kB.other (c := w.heap.size + 2) (o := 0) (by omega) (.func (.func 53) #[] #[.pointer (some ⟨w.heap.size, 0, none⟩), .pointer (some ⟨(w.heap.size + 1), 0, none⟩)])).other (c := w.heap.size + 2) (o := 1) (by omega) (.func (.func 55) #[] #[.pointer (some ⟨w.heap.size, 0, none⟩), .pointer (some ⟨(w.heap.size + 1), 0, none⟩)])
  have kE := (kR.set (o := 0) (.func (.func 53) #[] #[.pointer (some ⟨w.heap.size, 0, none⟩), .pointer (some ⟨(w.heap.size + 1), 0, none⟩)])).set (o := 1) (.func (.func 55) #[] #[.pointer (some ⟨w.heap.size, 0, none⟩), .pointer (some ⟨(w.heap.size + 1), 0, none⟩)])
  have gE := (g0.setCell (b := w.heap.size + 2) (o := 0) (by omega) (.func (.func 53) #[] #[.pointer (some ⟨w.heap.size, 0, none⟩), .pointer (some ⟨(w.heap.size + 1), 0, none⟩)])).setCell (b := w.heap.size + 2) (o := 1) (by omega) (.func (.func 55) #[] #[.pointer (some ⟨w.heap.size, 0, none⟩), .pointer (some ⟨(w.heap.size + 1), 0, none⟩)])
  have z0 := kE.cell 0
  have z1 := kE.cell 1
  exact bodyPost_ret (v := .agg #[.func (.func 53) #[] #[.pointer (some ⟨w.heap.size, 0, none⟩), .pointer (some ⟨(w.heap.size + 1), 0, none⟩)], .func (.func 55) #[] #[.pointer (some ⟨w.heap.size, 0, none⟩), .pointer (some ⟨(w.heap.size + 1), 0, none⟩)]]) (by simp [results, Tryz.results32, go_sem, z0, z1]) rfl ⟨_, _, rfl, kA2, kB2, gE⟩
set_option maxHeartbeats 1000000 in
theorem nicPlace_c (x : BX) (s : BS) (off : Int) (w : World) : Calls Tryz.prog 33 #[bdV x s, .int .u64 off] w fun e w' => ∃ A B, e = .returned (.agg #[.func (.func 57) #[] #[.pointer (some ⟨A, 0, none⟩), .pointer (some ⟨B, 0, none⟩)], .func (.func 59) #[] #[.pointer (some ⟨A, 0, none⟩), .pointer (some ⟨B, 0, none⟩)]]) ∧ Blk w' A (bdA x s) 36 ∧ Blk w' B #[.int .u64 off] 25 ∧ Grew w w' := by
  go_enter Tryz.func33, Tryz.ntmps33
  go_upto_region 1 with fail
  have kA : Blk (((w.alloc (.cells (bdA x s) 36)).alloc (.cells #[.int .u64 off] 25)).alloc (.cells #[.nilFunc, .nilFunc] 56)) w.heap.size (bdA x s) 36 := ((Blk.new _ _ _ _ rfl).alloc _).alloc _
  have kB : Blk (((w.alloc (.cells (bdA x s) 36)).alloc (.cells #[.int .u64 off] 25)).alloc (.cells #[.nilFunc, .nilFunc] 56)) (w.heap.size + 1) #[.int .u64 off] 25 := (Blk.new _ _ _ _ (by simp)).alloc _
  have kR : Blk (((w.alloc (.cells (bdA x s) 36)).alloc (.cells #[.int .u64 off] 25)).alloc (.cells #[.nilFunc, .nilFunc] 56)) (w.heap.size + 2) #[.nilFunc, .nilFunc] 56 := Blk.new _ _ _ _ (by simp)
  have g0 : Grew w (((w.alloc (.cells (bdA x s) 36)).alloc (.cells #[.int .u64 off] 25)).alloc (.cells #[.nilFunc, .nilFunc] 56)) := (((Grew.refl w).alloc _).alloc _).alloc _
  generalize (((w.alloc (.cells (bdA x s) 36)).alloc (.cells #[.int .u64 off] 25)).alloc (.cells #[.nilFunc, .nilFunc] 56)) = w0 at *
  have f0 := kR.free 0
  have f1 := kR.free 1
  have y0 := kR.cell 0
  have y1 := kR.cell 1
  go_wp2_with fail
  have kA2 := (kA.other (c := w.heap.size + 2) (o := 0) (by omega) (.func (.func 57) #[] #[.pointer (some ⟨w.heap.size, 0, none⟩), .pointer (some ⟨(w.heap.size + 1), 0, none⟩)])).other (c := w.heap.size + 2) (o := 1) (by omega) (.func (.func 59) #[] #[.pointer (some ⟨w.heap.size, 0, none⟩), .pointer (some ⟨(w.heap.size + 1), 0, none⟩)])
  have kB2 := (kB.other (c := w.heap.size + 2) (o := 0) (by omega) (.func (.func 57) #[] #[.pointer (some ⟨w.heap.size, 0, none⟩), .pointer (some ⟨(w.heap.size + 1), 0, none⟩)])).other (c := w.heap.size + 2) (o := 1) (by omega) (.func (.func 59) #[] #[.pointer (some ⟨w.heap.size, 0, none⟩), .pointer (some ⟨(w.heap.size + 1), 0, none⟩)])
  have kE := (kR.set (o := 0) (.func (.func 57) #[] #[.pointer (some ⟨w.heap.size, 0, none⟩), .pointer (some ⟨(w.heap.size + 1), 0, none⟩)])).set (o := 1) (.func (.func 59) #[] #[.pointer (some ⟨w.heap.size, 0, none⟩), .pointer (some ⟨(w.heap.size + 1), 0, none⟩)])
  have gE := (g0.setCell (b := w.heap.size + 2) (o := 0) (by omega) (.func (.func 57) #[] #[.pointer (some ⟨w.heap.size, 0, none⟩), .pointer (some ⟨(w.heap.size + 1), 0, none⟩)])).setCell (b := w.heap.size + 2) (o := 1) (by omega) (.func (.func 59) #[] #[.pointer (some ⟨w.heap.size, 0, none⟩), .pointer (some ⟨(w.heap.size + 1), 0, none⟩)])
  have z0 := kE.cell 0
  have z1 := kE.cell 1
  exact bodyPost_ret (v := .agg #[.func (.func 57) #[] #[.pointer (some ⟨w.heap.size, 0, none⟩), .pointer (some ⟨(w.heap.size + 1), 0, none⟩)], .func (.func 59) #[] #[.pointer (some ⟨w.heap.size, 0, none⟩), .pointer (some ⟨(w.heap.size + 1), 0, none⟩)]]) (by simp [results, Tryz.results33, go_sem, z0, z1]) rfl ⟨_, _, rfl, kA2, kB2, gE⟩
set_option maxHeartbeats 1000000 in
theorem ramPlace_c (x : BX) (s : BS) (off : Int) (w : World) : Calls Tryz.prog 34 #[bdV x s, .int .u64 off] w fun e w' => ∃ A B, e = .returned (.agg #[.func (.func 61) #[] #[.pointer (some ⟨A, 0, none⟩), .pointer (some ⟨B, 0, none⟩)], .func (.func 63) #[] #[.pointer (some ⟨A, 0, none⟩), .pointer (some ⟨B, 0, none⟩)]]) ∧ Blk w' A (bdA x s) 36 ∧ Blk w' B #[.int .u64 off] 25 ∧ Grew w w' := by
  go_enter Tryz.func34, Tryz.ntmps34
  go_upto_region 1 with fail
  have kA : Blk (((w.alloc (.cells (bdA x s) 36)).alloc (.cells #[.int .u64 off] 25)).alloc (.cells #[.nilFunc, .nilFunc] 56)) w.heap.size (bdA x s) 36 := ((Blk.new _ _ _ _ rfl).alloc _).alloc _
  have kB : Blk (((w.alloc (.cells (bdA x s) 36)).alloc (.cells #[.int .u64 off] 25)).alloc (.cells #[.nilFunc, .nilFunc] 56)) (w.heap.size + 1) #[.int .u64 off] 25 := (Blk.new _ _ _ _ (by simp)).alloc _
  have kR : Blk (((w.alloc (.cells (bdA x s) 36)).alloc (.cells #[.int .u64 off] 25)).alloc (.cells #[.nilFunc, .nilFunc] 56)) (w.heap.size + 2) #[.nilFunc, .nilFunc] 56 := Blk.new _ _ _ _ (by simp)
  have g0 : Grew w (((w.alloc (.cells (bdA x s) 36)).alloc (.cells #[.int .u64 off] 25)).alloc (.cells #[.nilFunc, .nilFunc] 56)) := (((Grew.refl w).alloc _).alloc _).alloc _
  generalize (((w.alloc (.cells (bdA x s) 36)).alloc (.cells #[.int .u64 off] 25)).alloc (.cells #[.nilFunc, .nilFunc] 56)) = w0 at *
  have f0 := kR.free 0
  have f1 := kR.free 1
  have y0 := kR.cell 0
  have y1 := kR.cell 1
  go_wp2_with fail
  have kA2 := (kA.other (c := w.heap.size + 2) (o := 0) (by omega) (.func (.func 61) #[] #[.pointer (some ⟨w.heap.size, 0, none⟩), .pointer (some ⟨(w.heap.size + 1), 0, none⟩)])).other (c := w.heap.size + 2) (o := 1) (by omega) (.func (.func 63) #[] #[.pointer (some ⟨w.heap.size, 0, none⟩), .pointer (some ⟨(w.heap.size + 1), 0, none⟩)])
  have kB2 := (kB.other (c := w.heap.size + 2) (o := 0) (by omega) (.func (.func 61) #[] #[.pointer (some ⟨w.heap.size, 0, none⟩), .pointer (some ⟨(w.heap.size + 1), 0, none⟩)])).other (c := w.heap.size + 2) (o := 1) (by omega) (.func (.func 63) #[] #[.pointer (some ⟨w.heap.size, 0, none⟩), .pointer (some ⟨(w.heap.size + 1), 0, none⟩)])
  have kE := (kR.set (o := 0) (.func (.func 61) #[] #[.pointer (some ⟨w.heap.size, 0, none⟩), .pointer (some ⟨(w.heap.size + 1), 0, none⟩)])).set (o := 1) (.func (.func 63) #[] #[.pointer (some ⟨w.heap.size, 0, none⟩), .pointer (some ⟨(w.heap.size + 1), 0, none⟩)])
  have gE := (g0.setCell (b := w.heap.size + 2) (o := 0) (by omega) (.func (.func 61) #[] #[.pointer (some ⟨w.heap.size, 0, none⟩), .pointer (some ⟨(w.heap.size + 1), 0, none⟩)])).setCell (b := w.heap.size + 2) (o := 1) (by omega) (.func (.func 63) #[] #[.pointer (some ⟨w.heap.size, 0, none⟩), .pointer (some ⟨(w.heap.size + 1), 0, none⟩)])
  have z0 := kE.cell 0
  have z1 := kE.cell 1
  exact bodyPost_ret (v := .agg #[.func (.func 61) #[] #[.pointer (some ⟨w.heap.size, 0, none⟩), .pointer (some ⟨(w.heap.size + 1), 0, none⟩)], .func (.func 63) #[] #[.pointer (some ⟨w.heap.size, 0, none⟩), .pointer (some ⟨(w.heap.size + 1), 0, none⟩)]]) (by simp [results, Tryz.results34, go_sem, z0, z1]) rfl ⟨_, _, rfl, kA2, kB2, gE⟩
set_option maxHeartbeats 2000000 in
theorem find_clint {b : BX} {s : BS} {x : Int} (p0 : 0 ≤ x) (p1 : x < 18446744073709551616) (h0 : inB x 33554432 65536 = true) (w : World) : Calls Tryz.prog 15 #[bdV b s, .int .u64 x] w fun e w' => ∃ A B, e = .returned (.agg #[.func (.func 45) #[] #[.pointer (some ⟨A, 0, none⟩), .pointer (some ⟨B, 0, none⟩)], .func (.func 47) #[] #[.pointer (some ⟨A, 0, none⟩), .pointer (some ⟨B, 0, none⟩)]]) ∧ Blk w' A (bdA b s) 36 ∧ Blk w' B #[.int .u64 (x - 33554432)] 25 ∧ Grew w w' := by
  have hP := Lib.hid (clintPlace_c b s (x - 33554432))
  have hw : IntKind.u64.wrap (x - 33554432) = x - 33554432 := IntWalk.u64_in _ (by have hh := h0; simp only [inB, Bool.and_eq_true, decide_eq_true_eq] at hh; omega)
  have hI0 := isWithin_c x 33554432 65536 p0 p1 (by decide)
  rw [h0] at hI0
  have HI0 := Lib.hid hI0
  clear p0 p1 h0 hI0
  go_enter Tryz.func15, Tryz.ntmps15
  go_upto_region 1 with fail
  have kA : Blk ((w.alloc (.cells (bdA b s) 36)).alloc (.cells #[.nilFunc, .nilFunc] 56)) w.heap.size (bdA b s) 36 := (Blk.new _ _ _ _ rfl).alloc _
  have kR : Blk ((w.alloc (.cells (bdA b s) 36)).alloc (.cells #[.nilFunc, .nilFunc] 56)) (w.heap.size + 1) #[.nilFunc, .nilFunc] 56 := Blk.new _ _ _ _ (by simp)
  have g0 : Grew w ((w.alloc (.cells (bdA b s) 36)).alloc (.cells #[.nilFunc, .nilFunc] 56)) := ((Grew.refl w).alloc _).alloc _
  generalize ((w.alloc (.cells (bdA b s) 36)).alloc (.cells #[.nilFunc, .nilFunc] 56)) = w0 at *
  go_wp2_with fail
  refine (HI0.out _).mono ?_
  rintro e v0 ⟨rfl, ev⟩
  obtain rfl := ev.symm
  go_wp2_with (refine ld_bd rfl (.tmp 2) rfl _ rfl kA (by rfl) ?_)
  refine (hP.out _).mono ?_
  rintro e w1 ⟨A, B, rfl, kA1, kB1, g1⟩
  have kR1 := kR.grew g1
  have nA := kR.lt
  have f0 := kR1.free 0
  have f1 := kR1.free 1
  have y0 := kR1.cell 0
  have y1 := kR1.cell 1
  go_wp2_with fail
  have kA2 := (kA1.other (c := w.heap.size + 1) (o := 0) (kA1.ne kR1 (by decide)) (.func (.func 45) #[] #[.pointer (some ⟨A, 0, none⟩), .pointer (some ⟨B, 0, none⟩)])).other (c := w.heap.size + 1) (o := 1) (kA1.ne kR1 (by decide)) (.func (.func 47) #[] #[.pointer (some ⟨A, 0, none⟩), .pointer (some ⟨B, 0, none⟩)])
  have kB2 := (kB1.other (c := w.heap.size + 1) (o := 0) (kB1.ne kR1 (by decide)) (.func (.func 45) #[] #[.pointer (some ⟨A, 0, none⟩), .pointer (some ⟨B, 0, none⟩)])).other (c := w.heap.size + 1) (o := 1) (kB1.ne kR1 (by decide)) (.func (.func 47) #[] #[.pointer (some ⟨A, 0, none⟩), .pointer (some ⟨B, 0, none⟩)])
  have kE := (kR1.set (o := 0) (.func (.func 45) #[] #[.pointer (some ⟨A, 0, none⟩), .pointer (some ⟨B, 0, none⟩)])).set (o := 1) (.func (.func 47) #[] #[.pointer (some ⟨A, 0, none⟩), .pointer (some ⟨B, 0, none⟩)])
  have gE := ((g0.trans g1).setCell (b := w.heap.size + 1) (o := 0) (by omega) (.func (.func 45) #[] #[.pointer (some ⟨A, 0, none⟩), .pointer (some ⟨B, 0, none⟩)])).setCell (b := w.heap.size + 1) (o := 1) (by omega) (.func (.func 47) #[] #[.pointer (some ⟨A, 0, none⟩), .pointer (some ⟨B, 0, none⟩)])
  have z0 := kE.cell 0
  have z1 := kE.cell 1
  exact bodyPost_ret (v := .agg #[.func (.func 45) #[] #[.pointer (some ⟨A, 0, none⟩), .pointer (some ⟨B, 0, none⟩)], .func (.func 47) #[] #[.pointer (some ⟨A, 0, none⟩), .pointer (some ⟨B, 0, none⟩)]]) (by simp [results, Tryz.results15, go_sem, z0, z1]) rfl ⟨A, B, rfl, kA2, kB2, gE⟩
set_option maxHeartbeats 2000000 in
theorem find_plic {b : BX} {s : BS} {x : Int} (p0 : 0 ≤ x) (p1 : x < 18446744073709551616) (h0 : inB x 33554432 65536 = false) (h1 : inB x 201326592 4194304 = true) (w : World) : Calls Tryz.prog 15 #[bdV b s, .int .u64 x] w fun e w' => ∃ A B, e = .returned (.agg #[.func (.func 49) #[] #[.pointer (some ⟨A, 0, none⟩), .pointer (some ⟨B, 0, none⟩)], .func (.func 51) #[] #[.pointer (some ⟨A, 0, none⟩), .pointer (some ⟨B, 0, none⟩)]]) ∧ Blk w' A (bdA b s) 36 ∧ Blk w' B #[.int .u64 (x - 201326592)] 25 ∧ Grew w w' := by
  have hP := Lib.hid (plicPlace_c b s (x - 201326592))
  have hw : IntKind.u64.wrap (x - 201326592) = x - 201326592 := IntWalk.u64_in _ (by have hh := h1; simp only [inB, Bool.and_eq_true, decide_eq_true_eq] at hh; omega)
  have hI0 := isWithin_c x 33554432 65536 p0 p1 (by decide)
  rw [h0] at hI0
  have HI0 := Lib.hid hI0
  have hI1 := isWithin_c x 201326592 4194304 p0 p1 (by decide)
  rw [h1] at hI1
  have HI1 := Lib.hid hI1
  clear p0 p1 h0 hI0 h1 hI1
  go_enter Tryz.func15, Tryz.ntmps15
  go_upto_region 1 with fail
  have kA : Blk ((w.alloc (.cells (bdA b s) 36)).alloc (.cells #[.nilFunc, .nilFunc] 56)) w.heap.size (bdA b s) 36 := (Blk.new _ _ _ _ rfl).alloc _
  have kR : Blk ((w.alloc (.cells (bdA b s) 36)).alloc (.cells #[.nilFunc, .nilFunc] 56)) (w.heap.size + 1) #[.nilFunc, .nilFunc] 56 := Blk.new _ _ _ _ (by simp)
  have g0 : Grew w ((w.alloc (.cells (bdA b s) 36)).alloc (.cells #[.nilFunc, .nilFunc] 56)) := ((Grew.refl w).alloc _).alloc _
  generalize ((w.alloc (.cells (bdA b s) 36)).alloc (.cells #[.nilFunc, .nilFunc] 56)) = w0 at *
  go_wp2_with fail
  refine (HI0.out _).mono ?_
  rintro e v0 ⟨rfl, ev⟩
  obtain rfl := ev.symm
  go_wp2_with fail
  refine (HI1.out _).mono ?_
  rintro e v1 ⟨rfl, ev⟩
  obtain rfl := ev.symm
  go_wp2_with (refine ld_bd rfl (.tmp 2) rfl _ rfl kA (by rfl) ?_)
  refine (hP.out _).mono ?_
  rintro e w1 ⟨A, B, rfl, kA1, kB1, g1⟩
  have kR1 := kR.grew g1
  have nA := kR.lt
  have f0 := kR1.free 0
  have f1 := kR1.free 1
  have y0 := kR1.cell 0
  have y1 := kR1.cell 1
  go_wp2_with fail
  have kA2 := (kA1.other (c := w.heap.size + 1) (o := 0) (kA1.ne kR1 (by decide)) (.func (.func 49) #[] #[.pointer (some ⟨A, 0, none⟩), .pointer (some ⟨B, 0, none⟩)])).other (c := w.heap.size + 1) (o := 1) (kA1.ne kR1 (by decide)) (.func (.func 51) #[] #[.pointer (some ⟨A, 0, none⟩), .pointer (some ⟨B, 0, none⟩)])
  have kB2 := (kB1.other (c := w.heap.size + 1) (o := 0) (kB1.ne kR1 (by decide)) (.func (.func 49) #[] #[.pointer (some ⟨A, 0, none⟩), .pointer (some ⟨B, 0, none⟩)])).other (c := w.heap.size + 1) (o := 1) (kB1.ne kR1 (by decide)) (.func (.func 51) #[] #[.pointer (some ⟨A, 0, none⟩), .pointer (some ⟨B, 0, none⟩)])
  have kE := (kR1.set (o := 0) (.func (.func 49) #[] #[.pointer (some ⟨A, 0, none⟩), .pointer (some ⟨B, 0, none⟩)])).set (o := 1) (.func (.func 51) #[] #[.pointer (some ⟨A, 0, none⟩), .pointer (some ⟨B, 0, none⟩)])
  have gE := ((g0.trans g1).setCell (b := w.heap.size + 1) (o := 0) (by omega) (.func (.func 49) #[] #[.pointer (some ⟨A, 0, none⟩), .pointer (some ⟨B, 0, none⟩)])).setCell (b := w.heap.size + 1) (o := 1) (by omega) (.func (.func 51) #[] #[.pointer (some ⟨A, 0, none⟩), .pointer (some ⟨B, 0, none⟩)])
  have z0 := kE.cell 0
  have z1 := kE.cell 1
  exact bodyPost_ret (v := .agg #[.func (.func 49) #[] #[.pointer (some ⟨A, 0, none⟩), .pointer (some ⟨B, 0, none⟩)], .func (.func 51) #[] #[.pointer (some ⟨A, 0, none⟩), .pointer (some ⟨B, 0, none⟩)]]) (by simp [results, Tryz.results15, go_sem, z0, z1]) rfl ⟨A, B, rfl, kA2, kB2, gE⟩
set_option maxHeartbeats 2000000 in
theorem find_uart {b : BX} {s : BS} {x : Int} (p0 : 0 ≤ x) (p1 : x < 18446744073709551616) (h0 : inB x 33554432 65536 = false) (h1 : inB x 201326592 4194304 = false) (h2 : inB x 268435456 8 = true) (w : World) : Calls Tryz.prog 15 #[bdV b s, .int .u64 x] w fun e w' => ∃ A B, e = .returned (.agg #[.func (.func 53) #[] #[.pointer (some ⟨A, 0, none⟩), .pointer (some ⟨B, 0, none⟩)], .func (.func 55) #[] #[.pointer (some ⟨A, 0, none⟩), .pointer (some ⟨B, 0, none⟩)]]) ∧ Blk w' A (bdA b s) 36 ∧ Blk w' B #[.int .u64 (x - 268435456)] 25 ∧ Grew w w' := by
  have hP := Lib.hid (uartPlace_c b s (x - 268435456))
  have hw : IntKind.u64.wrap (x - 268435456) = x - 268435456 := IntWalk.u64_in _ (by have hh := h2; simp only [inB, Bool.and_eq_true, decide_eq_true_eq] at hh; omega)
  have hI0 := isWithin_c x 33554432 65536 p0 p1 (by decide)
  rw [h0] at hI0
  have HI0 := Lib.hid hI0
  have hI1 := isWithin_c x 201326592 4194304 p0 p1 (by decide)
  rw [h1] at hI1
  have HI1 := Lib.hid hI1
  have hI2 := isWithin_c x 268435456 8 p0 p1 (by decide)
  rw [h2] at hI2
  have HI2 := Lib.hid hI2
  clear p0 p1 h0 hI0 h1 hI1 h2 hI2
  go_enter Tryz.func15, Tryz.ntmps15
  go_upto_region 1 with fail
  have kA : Blk ((w.alloc (.cells (bdA b s) 36)).alloc (.cells #[.nilFunc, .nilFunc] 56)) w.heap.size (bdA b s) 36 := (Blk.new _ _ _ _ rfl).alloc _
  have kR : Blk ((w.alloc (.cells (bdA b s) 36)).alloc (.cells #[.nilFunc, .nilFunc] 56)) (w.heap.size + 1) #[.nilFunc, .nilFunc] 56 := Blk.new _ _ _ _ (by simp)
  have g0 : Grew w ((w.alloc (.cells (bdA b s) 36)).alloc (.cells #[.nilFunc, .nilFunc] 56)) := ((Grew.refl w).alloc _).alloc _
  generalize ((w.alloc (.cells (bdA b s) 36)).alloc (.cells #[.nilFunc, .nilFunc] 56)) = w0 at *
  go_wp2_with fail
  refine (HI0.out _).mono ?_
  rintro e v0 ⟨rfl, ev⟩
  obtain rfl := ev.symm
  go_wp2_with fail
  refine (HI1.out _).mono ?_
  rintro e v1 ⟨rfl, ev⟩
  obtain rfl := ev.symm
  go_wp2_with fail
  refine (HI2.out _).mono ?_
  rintro e v2 ⟨rfl, ev⟩
  obtain rfl := ev.symm
  go_wp2_with (refine ld_bd rfl (.tmp 2) rfl _ rfl kA (by rfl) ?_)
  refine (hP.out _).mono ?_
  rintro e w1 ⟨A, B, rfl, kA1, kB1, g1⟩
  have kR1 := kR.grew g1
  have nA := kR.lt
  have f0 := kR1.free 0
  have f1 := kR1.free 1
  have y0 := kR1.cell 0
  have y1 := kR1.cell 1
  go_wp2_with fail
  have kA2 := (kA1.other (c := w.heap.size + 1) (o := 0) (kA1.ne kR1 (by decide)) (.func (.func 53) #[] #[.pointer (some ⟨A, 0, none⟩), .pointer (some ⟨B, 0, none⟩)])).other (c := w.heap.size + 1) (o := 1) (kA1.ne kR1 (by decide)) (.func (.func 55) #[] #[.pointer (some ⟨A, 0, none⟩), .pointer (some ⟨B, 0, none⟩)])
  have kB2 := (kB1.other (c := w.heap.size + 1) (o := 0) (kB1.ne kR1 (by decide)) (.func (.func 53) #[] #[.pointer (some ⟨A, 0, none⟩), .pointer (some ⟨B, 0, none⟩)])).other (c := w.heap.size + 1) (o := 1) (kB1.ne kR1 (by decide)) (.func (.func 55) #[] #[.pointer (some ⟨A, 0, none⟩), .pointer (some ⟨B, 0, none⟩)])
  have kE := (kR1.set (o := 0) (.func (.func 53) #[] #[.pointer (some ⟨A, 0, none⟩), .pointer (some ⟨B, 0, none⟩)])).set (o := 1) (.func (.func 55) #[] #[.pointer (some ⟨A, 0, none⟩), .pointer (some ⟨B, 0, none⟩)])
  have gE := ((g0.trans g1).setCell (b := w.heap.size + 1) (o := 0) (by omega) (.func (.func 53) #[] #[.pointer (some ⟨A, 0, none⟩), .pointer (some ⟨B, 0, none⟩)])).setCell (b := w.heap.size + 1) (o := 1) (by omega) (.func (.func 55) #[] #[.pointer (some ⟨A, 0, none⟩), .pointer (some ⟨B, 0, none⟩)])
  have z0 := kE.cell 0
  have z1 := kE.cell 1
  exact bodyPost_ret (v := .agg #[.func (.func 53) #[] #[.pointer (some ⟨A, 0, none⟩), .pointer (some ⟨B, 0, none⟩)], .func (.func 55) #[] #[.pointer (some ⟨A, 0, none⟩), .pointer (some ⟨B, 0, none⟩)]]) (by simp [results, Tryz.results15, go_sem, z0, z1]) rfl ⟨A, B, rfl, kA2, kB2, gE⟩
set_option maxHeartbeats 2000000 in
theorem find_nic {b : BX} {s : BS} {x : Int} (p0 : 0 ≤ x) (p1 : x < 18446744073709551616) (h0 : inB x 33554432 65536 = false) (h1 : inB x 201326592 4194304 = false) (h2 : inB x 268435456 8 = false) (h3 : inB x 268439552 256 = true) (w : World) : Calls Tryz.prog 15 #[bdV b s, .int .u64 x] w fun e w' => ∃ A B, e = .returned (.agg #[.func (.func 57) #[] #[.pointer (some ⟨A, 0, none⟩), .pointer (some ⟨B, 0, none⟩)], .func (.func 59) #[] #[.pointer (some ⟨A, 0, none⟩), .pointer (some ⟨B, 0, none⟩)]]) ∧ Blk w' A (bdA b s) 36 ∧ Blk w' B #[.int .u64 (x - 268439552)] 25 ∧ Grew w w' := by
  have hP := Lib.hid (nicPlace_c b s (x - 268439552))
  have hw : IntKind.u64.wrap (x - 268439552) = x - 268439552 := IntWalk.u64_in _ (by have hh := h3; simp only [inB, Bool.and_eq_true, decide_eq_true_eq] at hh; omega)
  have hI0 := isWithin_c x 33554432 65536 p0 p1 (by decide)
  rw [h0] at hI0
  have HI0 := Lib.hid hI0
  have hI1 := isWithin_c x 201326592 4194304 p0 p1 (by decide)
  rw [h1] at hI1
  have HI1 := Lib.hid hI1
  have hI2 := isWithin_c x 268435456 8 p0 p1 (by decide)
  rw [h2] at hI2
  have HI2 := Lib.hid hI2
  have hI3 := isWithin_c x 268439552 256 p0 p1 (by decide)
  rw [h3] at hI3
  have HI3 := Lib.hid hI3
  clear p0 p1 h0 hI0 h1 hI1 h2 hI2 h3 hI3
  go_enter Tryz.func15, Tryz.ntmps15
  go_upto_region 1 with fail
  have kA : Blk ((w.alloc (.cells (bdA b s) 36)).alloc (.cells #[.nilFunc, .nilFunc] 56)) w.heap.size (bdA b s) 36 := (Blk.new _ _ _ _ rfl).alloc _
  have kR : Blk ((w.alloc (.cells (bdA b s) 36)).alloc (.cells #[.nilFunc, .nilFunc] 56)) (w.heap.size + 1) #[.nilFunc, .nilFunc] 56 := Blk.new _ _ _ _ (by simp)
  have g0 : Grew w ((w.alloc (.cells (bdA b s) 36)).alloc (.cells #[.nilFunc, .nilFunc] 56)) := ((Grew.refl w).alloc _).alloc _
  generalize ((w.alloc (.cells (bdA b s) 36)).alloc (.cells #[.nilFunc, .nilFunc] 56)) = w0 at *
  go_wp2_with fail
  refine (HI0.out _).mono ?_
  rintro e v0 ⟨rfl, ev⟩
  obtain rfl := ev.symm
  go_wp2_with fail
  refine (HI1.out _).mono ?_
  rintro e v1 ⟨rfl, ev⟩
  obtain rfl := ev.symm
  go_wp2_with fail
  refine (HI2.out _).mono ?_
  rintro e v2 ⟨rfl, ev⟩
  obtain rfl := ev.symm
  go_wp2_with fail
  refine (HI3.out _).mono ?_
  rintro e v3 ⟨rfl, ev⟩
  obtain rfl := ev.symm
  go_wp2_with (refine ld_bd rfl (.tmp 2) rfl _ rfl kA (by rfl) ?_)
  refine (hP.out _).mono ?_
  rintro e w1 ⟨A, B, rfl, kA1, kB1, g1⟩
  have kR1 := kR.grew g1
  have nA := kR.lt
  have f0 := kR1.free 0
  have f1 := kR1.free 1
  have y0 := kR1.cell 0
  have y1 := kR1.cell 1
  go_wp2_with fail
  have kA2 := (kA1.other (c := w.heap.size + 1) (o := 0) (kA1.ne kR1 (by decide)) (.func (.func 57) #[] #[.pointer (some ⟨A, 0, none⟩), .pointer (some ⟨B, 0, none⟩)])).other (c := w.heap.size + 1) (o := 1) (kA1.ne kR1 (by decide)) (.func (.func 59) #[] #[.pointer (some ⟨A, 0, none⟩), .pointer (some ⟨B, 0, none⟩)])
  have kB2 := (kB1.other (c := w.heap.size + 1) (o := 0) (kB1.ne kR1 (by decide)) (.func (.func 57) #[] #[.pointer (some ⟨A, 0, none⟩), .pointer (some ⟨B, 0, none⟩)])).other (c := w.heap.size + 1) (o := 1) (kB1.ne kR1 (by decide)) (.func (.func 59) #[] #[.pointer (some ⟨A, 0, none⟩), .pointer (some ⟨B, 0, none⟩)])
  have kE := (kR1.set (o := 0) (.func (.func 57) #[] #[.pointer (some ⟨A, 0, none⟩), .pointer (some ⟨B, 0, none⟩)])).set (o := 1) (.func (.func 59) #[] #[.pointer (some ⟨A, 0, none⟩), .pointer (some ⟨B, 0, none⟩)])
  have gE := ((g0.trans g1).setCell (b := w.heap.size + 1) (o := 0) (by omega) (.func (.func 57) #[] #[.pointer (some ⟨A, 0, none⟩), .pointer (some ⟨B, 0, none⟩)])).setCell (b := w.heap.size + 1) (o := 1) (by omega) (.func (.func 59) #[] #[.pointer (some ⟨A, 0, none⟩), .pointer (some ⟨B, 0, none⟩)])
  have z0 := kE.cell 0
  have z1 := kE.cell 1
  exact bodyPost_ret (v := .agg #[.func (.func 57) #[] #[.pointer (some ⟨A, 0, none⟩), .pointer (some ⟨B, 0, none⟩)], .func (.func 59) #[] #[.pointer (some ⟨A, 0, none⟩), .pointer (some ⟨B, 0, none⟩)]]) (by simp [results, Tryz.results15, go_sem, z0, z1]) rfl ⟨A, B, rfl, kA2, kB2, gE⟩
set_option maxHeartbeats 2000000 in
theorem find_ram {b : BX} {s : BS} {x : Int} (p0 : 0 ≤ x) (p1 : x < 18446744073709551616) (h0 : inB x 33554432 65536 = false) (h1 : inB x 201326592 4194304 = false) (h2 : inB x 268435456 8 = false) (h3 : inB x 268439552 256 = false) (w : World) : Calls Tryz.prog 15 #[bdV b s, .int .u64 x] w fun e w' => ∃ A B, e = .returned (.agg #[.func (.func 61) #[] #[.pointer (some ⟨A, 0, none⟩), .pointer (some ⟨B, 0, none⟩)], .func (.func 63) #[] #[.pointer (some ⟨A, 0, none⟩), .pointer (some ⟨B, 0, none⟩)]]) ∧ Blk w' A (bdA b s) 36 ∧ Blk w' B #[.int .u64 x] 25 ∧ Grew w w' := by
  have hP := Lib.hid (ramPlace_c b s x)
  have hI0 := isWithin_c x 33554432 65536 p0 p1 (by decide)
  rw [h0] at hI0
  have HI0 := Lib.hid hI0
  have hI1 := isWithin_c x 201326592 4194304 p0 p1 (by decide)
  rw [h1] at hI1
  have HI1 := Lib.hid hI1
  have hI2 := isWithin_c x 268435456 8 p0 p1 (by decide)
  rw [h2] at hI2
  have HI2 := Lib.hid hI2
  have hI3 := isWithin_c x 268439552 256 p0 p1 (by decide)
  rw [h3] at hI3
  have HI3 := Lib.hid hI3
  clear p0 p1 h0 hI0 h1 hI1 h2 hI2 h3 hI3
  go_enter Tryz.func15, Tryz.ntmps15
  go_upto_region 1 with fail
  have kA : Blk ((w.alloc (.cells (bdA b s) 36)).alloc (.cells #[.nilFunc, .nilFunc] 56)) w.heap.size (bdA b s) 36 := (Blk.new _ _ _ _ rfl).alloc _
  have kR : Blk ((w.alloc (.cells (bdA b s) 36)).alloc (.cells #[.nilFunc, .nilFunc] 56)) (w.heap.size + 1) #[.nilFunc, .nilFunc] 56 := Blk.new _ _ _ _ (by simp)
  have g0 : Grew w ((w.alloc (.cells (bdA b s) 36)).alloc (.cells #[.nilFunc, .nilFunc] 56)) := ((Grew.refl w).alloc _).alloc _
  generalize ((w.alloc (.cells (bdA b s) 36)).alloc (.cells #[.nilFunc, .nilFunc] 56)) = w0 at *
  go_wp2_with fail
  refine (HI0.out _).mono ?_
  rintro e v0 ⟨rfl, ev⟩
  obtain rfl := ev.symm
  go_wp2_with fail
  refine (HI1.out _).mono ?_
  rintro e v1 ⟨rfl, ev⟩
  obtain rfl := ev.symm
  go_wp2_with fail
  refine (HI2.out _).mono ?_
  rintro e v2 ⟨rfl, ev⟩
  obtain rfl := ev.symm
  go_wp2_with fail
  refine (HI3.out _).mono ?_
  rintro e v3 ⟨rfl, ev⟩
  obtain rfl := ev.symm
  go_wp2_with (refine ld_bd rfl (.tmp 2) rfl _ rfl kA (by rfl) ?_)
  refine (hP.out _).mono ?_
  rintro e w1 ⟨A, B, rfl, kA1, kB1, g1⟩
  have kR1 := kR.grew g1
  have nA := kR.lt
  have f0 := kR1.free 0
  have f1 := kR1.free 1
  have y0 := kR1.cell 0
  have y1 := kR1.cell 1
  go_wp2_with fail
  have kA2 := (kA1.other (c := w.heap.size + 1) (o := 0) (kA1.ne kR1 (by decide)) (.func (.func 61) #[] #[.pointer (some ⟨A, 0, none⟩), .pointer (some ⟨B, 0, none⟩)])).other (c := w.heap.size + 1) (o := 1) (kA1.ne kR1 (by decide)) (.func (.func 63) #[] #[.pointer (some ⟨A, 0, none⟩), .pointer (some ⟨B, 0, none⟩)])
  have kB2 := (kB1.other (c := w.heap.size + 1) (o := 0) (kB1.ne kR1 (by decide)) (.func (.func 61) #[] #[.pointer (some ⟨A, 0, none⟩), .pointer (some ⟨B, 0, none⟩)])).other (c := w.heap.size + 1) (o := 1) (kB1.ne kR1 (by decide)) (.func (.func 63) #[] #[.pointer (some ⟨A, 0, none⟩), .pointer (some ⟨B, 0, none⟩)])
  have kE := (kR1.set (o := 0) (.func (.func 61) #[] #[.pointer (some ⟨A, 0, none⟩), .pointer (some ⟨B, 0, none⟩)])).set (o := 1) (.func (.func 63) #[] #[.pointer (some ⟨A, 0, none⟩), .pointer (some ⟨B, 0, none⟩)])
  have gE := ((g0.trans g1).setCell (b := w.heap.size + 1) (o := 0) (by omega) (.func (.func 61) #[] #[.pointer (some ⟨A, 0, none⟩), .pointer (some ⟨B, 0, none⟩)])).setCell (b := w.heap.size + 1) (o := 1) (by omega) (.func (.func 63) #[] #[.pointer (some ⟨A, 0, none⟩), .pointer (some ⟨B, 0, none⟩)])
  have z0 := kE.cell 0
  have z1 := kE.cell 1
  exact bodyPost_ret (v := .agg #[.func (.func 61) #[] #[.pointer (some ⟨A, 0, none⟩), .pointer (some ⟨B, 0, none⟩)], .func (.func 63) #[] #[.pointer (some ⟨A, 0, none⟩), .pointer (some ⟨B, 0, none⟩)]]) (by simp [results, Tryz.results15, go_sem, z0, z1]) rfl ⟨A, B, rfl, kA2, kB2, gE⟩
set_option maxHeartbeats 2000000 in
theorem store_clint {b : BX} {s : BS} {x n y : Int} {w : World} (hk : BOk s) (hb : Bd w b s) (p0 : 0 ≤ x) (p1 : x < 18446744073709551616) (y0 : 0 ≤ y) (y1 : y < 18446744073709551616) (h0 : inB x 33554432 65536 = true) : Calls Tryz.prog 8 #[bdV b s, .int .u64 x, .int .i64 n, .int .u64 y] w fun e w' => ∃ x' T' C' S' ok, e = .returned (.tuple #[bdV x' { s with T := T', C := C', S := S' }, .bool (ok)]) ∧ Hid (Bdr w' x' { s with T := T', C := C', S := S' }) ∧ Hid (ok = false → T' = s.T ∧ C' = s.C ∧ S' = s.S) ∧ Grew w w' := by
  have HK := Lib.hid hk
  have HB := Lib.hid hb
  have q0 : (0 : Int) ≤ (x - 33554432) := by have hh := h0; simp only [inB, Bool.and_eq_true, decide_eq_true_eq] at hh; omega
  have q1 : (x - 33554432) < (18446744073709551616 : Int) := by omega
  have hF := Lib.hid (find_clint (b := b) (s := s) p0 p1 h0)
  have HQ : Hid (((0 : Int) ≤ (x - 33554432) ∧ (x - 33554432) < (18446744073709551616 : Int)) ∧ (0 ≤ y ∧ y < 18446744073709551616)) := Lib.hid ⟨⟨q0, q1⟩, ⟨y0, y1⟩⟩
  clear hk hb p0 p1 q0 q1 y0 y1 h0
  have hfd : ∀ A B (w : World), (Instr.field 56 (.agg #[.func (.func 45) #[] #[.pointer (some ⟨A, 0, none⟩), .pointer (some ⟨B, 0, none⟩)], .func (.func 47) #[] #[.pointer (some ⟨A, 0, none⟩), .pointer (some ⟨B, 0, none⟩)]]) 1).run Tryz.prog w = .ok (.func (.func 47) #[] #[.pointer (some ⟨A, 0, none⟩), .pointer (some ⟨B, 0, none⟩)]) w := fun _ _ _ => by kernel_rfl
  go_enter Tryz.func8, Tryz.ntmps8
  go_upto_region 1 with fail
  have kA : Blk ((w.alloc (.cells (bdA b s) 36)).alloc (.cells zeroB 36)) w.heap.size (bdA b s) 36 := (Blk.new _ _ _ _ rfl).alloc _
  have kR : Blk ((w.alloc (.cells (bdA b s) 36)).alloc (.cells zeroB 36)) (w.heap.size + 1) zeroB 36 := Blk.new _ _ _ _ (by simp)
  have g0 : Grew w ((w.alloc (.cells (bdA b s) 36)).alloc (.cells zeroB 36)) := ((Grew.refl w).alloc _).alloc _
  generalize ((w.alloc (.cells (bdA b s) 36)).alloc (.cells zeroB 36)) = w0 at *
  have lR : w.heap.size ≤ w.heap.size + 1 := Nat.le_succ _
  generalize w.heap.size + 1 = R at *
  have LR := Lib.hid lR
  clear lR
  generalize hA0 : w.heap.size = A0 at *
  go_wp2_with (refine ld_bd rfl (.tmp 4) rfl _ rfl kA (by rfl) ?_)
  refine (hF.out _).mono ?_
  rintro e w1 ⟨A, B, rfl, kA1, kB1, g1⟩
  replace kR := kR.grew g1
  replace g0 := g0.trans g1
  have hfd1 := hfd A B
  clear hfd kA g1
  have HB0 := Lib.hid (HB.out.grew g0)
  obtain ⟨⟨q0, q1⟩, y0, y1⟩ := HQ.out
  have hC := Lib.hid (clint_place HK.out HB0.out kA1 kB1 q0 q1 y0 y1 (n := n))
  clear q0 q1 y0 y1
  go_wp2_with fail
  refine hC.out.mono ?_
  rintro e w2 ⟨x', T', C', S', ok, rfl, H2, HF, g2⟩
  replace kR := kR.grew g2
  replace g0 := g0.trans g2
  go_wp2_with (refine st_bd rfl (.tmp 8) (.tmp 17) rfl rfl x' { s with T := T', C := C', S := S' } kR rfl (by rfl) (by rfl) ?_; intro w3 kR3 o3)
  subst hA0
  exact bodyPost_ret (v := .tuple #[bdV x' { s with T := T', C := C', S := S' }, .bool (ok)]) (results_bb (p := 8) (q := 9) Tryz.results8 _ _ R kR3 rfl) rfl ⟨x', T', C', S', ok, rfl, Lib.hid (H2.out.only o3 kR nb_zero (by decide)), HF, o3.grew g0 LR.out⟩
set_option maxHeartbeats 2000000 in
theorem store_plic {b : BX} {s : BS} {x n y : Int} {w : World} (hk : BOk s) (hb : Bd w b s) (p0 : 0 ≤ x) (p1 : x < 18446744073709551616) (y0 : 0 ≤ y) (y1 : y < 18446744073709551616) (h0 : inB x 33554432 65536 = false) (h1 : inB x 201326592 4194304 = true) : Calls Tryz.prog 8 #[bdV b s, .int .u64 x, .int .i64 n, .int .u64 y] w fun e w' => ∃ x' p' ok, e = .returned (.tuple #[bdV x' { s with p := p' }, .bool (ok)]) ∧ Hid (Bdr w' x' { s with p := p' }) ∧ Hid (ok = false → p' = s.p) ∧ Grew w w' := by
  have HK := Lib.hid hk
  have HB := Lib.hid hb
  have q0 : (0 : Int) ≤ (x - 201326592) := by have hh := h1; simp only [inB, Bool.and_eq_true, decide_eq_true_eq] at hh; omega
  have q1 : (x - 201326592) < (18446744073709551616 : Int) := by omega
  have hF := Lib.hid (find_plic (b := b) (s := s) p0 p1 h0 h1)
  have HQ : Hid (((0 : Int) ≤ (x - 201326592) ∧ (x - 201326592) < (18446744073709551616 : Int)) ∧ (0 ≤ y ∧ y < 18446744073709551616)) := Lib.hid ⟨⟨q0, q1⟩, ⟨y0, y1⟩⟩
  clear hk hb p0 p1 q0 q1 y0 y1 h0 h1
  have hfd : ∀ A B (w : World), (Instr.field 56 (.agg #[.func (.func 49) #[] #[.pointer (some ⟨A, 0, none⟩), .pointer (some ⟨B, 0, none⟩)], .func (.func 51) #[] #[.pointer (some ⟨A, 0, none⟩), .pointer (some ⟨B, 0, none⟩)]]) 1).run Tryz.prog w = .ok (.func (.func 51) #[] #[.pointer (some ⟨A, 0, none⟩), .pointer (some ⟨B, 0, none⟩)]) w := fun _ _ _ => by kernel_rfl
  go_enter Tryz.func8, Tryz.ntmps8
  go_upto_region 1 with fail
  have kA : Blk ((w.alloc (.cells (bdA b s) 36)).alloc (.cells zeroB 36)) w.heap.size (bdA b s) 36 := (Blk.new _ _ _ _ rfl).alloc _
  have kR : Blk ((w.alloc (.cells (bdA b s) 36)).alloc (.cells zeroB 36)) (w.heap.size + 1) zeroB 36 := Blk.new _ _ _ _ (by simp)
  have g0 : Grew w ((w.alloc (.cells (bdA b s) 36)).alloc (.cells zeroB 36)) := ((Grew.refl w).alloc _).alloc _
  generalize ((w.alloc (.cells (bdA b s) 36)).alloc (.cells zeroB 36)) = w0 at *
  have lR : w.heap.size ≤ w.heap.size + 1 := Nat.le_succ _
  generalize w.heap.size + 1 = R at *
  have LR := Lib.hid lR
  clear lR
  generalize hA0 : w.heap.size = A0 at *
  go_wp2_with (refine ld_bd rfl (.tmp 4) rfl _ rfl kA (by rfl) ?_)
  refine (hF.out _).mono ?_
  rintro e w1 ⟨A, B, rfl, kA1, kB1, g1⟩
  replace kR := kR.grew g1
  replace g0 := g0.trans g1
  have hfd1 := hfd A B
  clear hfd kA g1
  have HB0 := Lib.hid (HB.out.grew g0)
  obtain ⟨⟨q0, q1⟩, y0, y1⟩ := HQ.out
  have hC := Lib.hid (plic_place HK.out HB0.out kA1 kB1 q0 q1 y0 y1 (n := n))
  clear q0 q1 y0 y1
  go_wp2_with fail
  refine hC.out.mono ?_
  rintro e w2 ⟨x', p', ok, rfl, H2, HF, g2⟩
  replace kR := kR.grew g2
  replace g0 := g0.trans g2
  go_wp2_with (refine st_bd rfl (.tmp 8) (.tmp 17) rfl rfl x' { s with p := p' } kR rfl (by rfl) (by rfl) ?_; intro w3 kR3 o3)
  subst hA0
  exact bodyPost_ret (v := .tuple #[bdV x' { s with p := p' }, .bool (ok)]) (results_bb (p := 8) (q := 9) Tryz.results8 _ _ R kR3 rfl) rfl ⟨x', p', ok, rfl, Lib.hid (H2.out.only o3 kR nb_zero (by decide)), HF, o3.grew g0 LR.out⟩
set_option maxHeartbeats 2000000 in
theorem store_uart {b : BX} {s : BS} {x n y : Int} {w : World} (hk : BOk s) (hb : Bd w b s) (p0 : 0 ≤ x) (p1 : x < 18446744073709551616) (y0 : 0 ≤ y) (y1 : y < 18446744073709551616) (h0 : inB x 33554432 65536 = false) (h1 : inB x 201326592 4194304 = false) (h2 : inB x 268435456 8 = true) : Calls Tryz.prog 8 #[bdV b s, .int .u64 x, .int .i64 n, .int .u64 y] w fun e w' => ∃ x', e = .returned (.tuple #[bdV x' { s with u := uaStS s.u (x - 268435456) n y }, .bool (!uaBadU (x - 268435456) n)]) ∧ Hid (Bdr w' x' { s with u := uaStS s.u (x - 268435456) n y }) ∧ Grew w w' := by
  have HK := Lib.hid hk
  have HB := Lib.hid hb
  have q0 : (0 : Int) ≤ (x - 268435456) := by have hh := h2; simp only [inB, Bool.and_eq_true, decide_eq_true_eq] at hh; omega
  have q1 : (x - 268435456) < (18446744073709551616 : Int) := by omega
  have hF := Lib.hid (find_uart (b := b) (s := s) p0 p1 h0 h1 h2)
  have HQ : Hid (((0 : Int) ≤ (x - 268435456) ∧ (x - 268435456) < (18446744073709551616 : Int)) ∧ (0 ≤ y ∧ y < 18446744073709551616)) := Lib.hid ⟨⟨q0, q1⟩, ⟨y0, y1⟩⟩
  clear hk hb p0 p1 q0 q1 y0 y1 h0 h1 h2
  have hfd : ∀ A B (w : World), (Instr.field 56 (.agg #[.func (.func 53) #[] #[.pointer (some ⟨A, 0, none⟩), .pointer (some ⟨B, 0, none⟩)], .func (.func 55) #[] #[.pointer (some ⟨A, 0, none⟩), .pointer (some ⟨B, 0, none⟩)]]) 1).run Tryz.prog w = .ok (.func (.func 55) #[] #[.pointer (some ⟨A, 0, none⟩), .pointer (some ⟨B, 0, none⟩)]) w := fun _ _ _ => by kernel_rfl
  go_enter Tryz.func8, Tryz.ntmps8
  go_upto_region 1 with fail
  have kA : Blk ((w.alloc (.cells (bdA b s) 36)).alloc (.cells zeroB 36)) w.heap.size (bdA b s) 36 := (Blk.new _ _ _ _ rfl).alloc _
  have kR : Blk ((w.alloc (.cells (bdA b s) 36)).alloc (.cells zeroB 36)) (w.heap.size + 1) zeroB 36 := Blk.new _ _ _ _ (by simp)
  have g0 : Grew w ((w.alloc (.cells (bdA b s) 36)).alloc (.cells zeroB 36)) := ((Grew.refl w).alloc _).alloc _
  generalize ((w.alloc (.cells (bdA b s) 36)).alloc (.cells zeroB 36)) = w0 at *
  have lR : w.heap.size ≤ w.heap.size + 1 := Nat.le_succ _
  generalize w.heap.size + 1 = R at *
  have LR := Lib.hid lR
  clear lR
  generalize hA0 : w.heap.size = A0 at *
  go_wp2_with (refine ld_bd rfl (.tmp 4) rfl _ rfl kA (by rfl) ?_)
  refine (hF.out _).mono ?_
  rintro e w1 ⟨A, B, rfl, kA1, kB1, g1⟩
  replace kR := kR.grew g1
  replace g0 := g0.trans g1
  have hfd1 := hfd A B
  clear hfd kA g1
  have HB0 := Lib.hid (HB.out.grew g0)
  obtain ⟨⟨q0, q1⟩, y0, y1⟩ := HQ.out
  have hC := Lib.hid (uart_place HK.out HB0.out kA1 kB1 q0 q1 y0 y1 (n := n))
  clear q0 q1 y0 y1
  go_wp2_with fail
  refine hC.out.mono ?_
  rintro e w2 ⟨x', rfl, H2, g2⟩
  replace kR := kR.grew g2
  replace g0 := g0.trans g2
  go_wp2_with (refine st_bd rfl (.tmp 8) (.tmp 17) rfl rfl x' { s with u := uaStS s.u (x - 268435456) n y } kR rfl (by rfl) (by rfl) ?_; intro w3 kR3 o3)
  subst hA0
  exact bodyPost_ret (v := .tuple #[bdV x' { s with u := uaStS s.u (x - 268435456) n y }, .bool (!uaBadU (x - 268435456) n)]) (results_bb (p := 8) (q := 9) Tryz.results8 _ _ R kR3 rfl) rfl ⟨x', rfl, Lib.hid (H2.out.only o3 kR nb_zero (by decide)), o3.grew g0 LR.out⟩
set_option maxHeartbeats 2000000 in
theorem store_nic {b : BX} {s : BS} {x n y : Int} {w : World} (hk : BOk s) (hm : MacOf s.c s.m) (hb : Bd w b s) (p0 : 0 ≤ x) (p1 : x < 18446744073709551616) (y0 : 0 ≤ y) (y1 : y < 18446744073709551616) (h0 : inB x 33554432 65536 = false) (h1 : inB x 201326592 4194304 = false) (h2 : inB x 268435456 8 = false) (h3 : inB x 268439552 256 = true) : Calls Tryz.prog 8 #[bdV b s, .int .u64 x, .int .i64 n, .int .u64 y] w fun e w' => ∃ x' c' ok, e = .returned (.tuple #[bdV x' { s with c := c', m := s.m }, .bool (ok)]) ∧ Hid (Bdr w' x' { s with c := c', m := s.m }) ∧ Hid (ok = false → c' = s.c) ∧ Grew w w' := by
  have HK := Lib.hid hk
  have HB := Lib.hid hb
  have HMO := Lib.hid hm
  have q0 : (0 : Int) ≤ (x - 268439552) := by have hh := h3; simp only [inB, Bool.and_eq_true, decide_eq_true_eq] at hh; omega
  have q1 : (x - 268439552) < (18446744073709551616 : Int) := by omega
  have hF := Lib.hid (find_nic (b := b) (s := s) p0 p1 h0 h1 h2 h3)
  have HQ : Hid (((0 : Int) ≤ (x - 268439552) ∧ (x - 268439552) < (18446744073709551616 : Int)) ∧ (0 ≤ y ∧ y < 18446744073709551616)) := Lib.hid ⟨⟨q0, q1⟩, ⟨y0, y1⟩⟩
  clear hk hb p0 p1 q0 q1 y0 y1 hm h0 h1 h2 h3
  have hfd : ∀ A B (w : World), (Instr.field 56 (.agg #[.func (.func 57) #[] #[.pointer (some ⟨A, 0, none⟩), .pointer (some ⟨B, 0, none⟩)], .func (.func 59) #[] #[.pointer (some ⟨A, 0, none⟩), .pointer (some ⟨B, 0, none⟩)]]) 1).run Tryz.prog w = .ok (.func (.func 59) #[] #[.pointer (some ⟨A, 0, none⟩), .pointer (some ⟨B, 0, none⟩)]) w := fun _ _ _ => by kernel_rfl
  go_enter Tryz.func8, Tryz.ntmps8
  go_upto_region 1 with fail
  have kA : Blk ((w.alloc (.cells (bdA b s) 36)).alloc (.cells zeroB 36)) w.heap.size (bdA b s) 36 := (Blk.new _ _ _ _ rfl).alloc _
  have kR : Blk ((w.alloc (.cells (bdA b s) 36)).alloc (.cells zeroB 36)) (w.heap.size + 1) zeroB 36 := Blk.new _ _ _ _ (by simp)
  have g0 : Grew w ((w.alloc (.cells (bdA b s) 36)).alloc (.cells zeroB 36)) := ((Grew.refl w).alloc _).alloc _
  generalize ((w.alloc (.cells (bdA b s) 36)).alloc (.cells zeroB 36)) = w0 at *
  have lR : w.heap.size ≤ w.heap.size + 1 := Nat.le_succ _
  generalize w.heap.size + 1 = R at *
  have LR := Lib.hid lR
  clear lR
  generalize hA0 : w.heap.size = A0 at *
  go_wp2_with (refine ld_bd rfl (.tmp 4) rfl _ rfl kA (by rfl) ?_)
  refine (hF.out _).mono ?_
  rintro e w1 ⟨A, B, rfl, kA1, kB1, g1⟩
  replace kR := kR.grew g1
  replace g0 := g0.trans g1
  have hfd1 := hfd A B
  clear hfd kA g1
  have HB0 := Lib.hid (HB.out.grew g0)
  obtain ⟨⟨q0, q1⟩, y0, y1⟩ := HQ.out
  have hC := Lib.hid (nic_place HK.out HMO.out HB0.out kA1 kB1 q0 q1 y0 y1 (n := n))
  clear q0 q1 y0 y1
  go_wp2_with fail
  refine hC.out.mono ?_
  rintro e w2 ⟨x', c', ok, rfl, H2, HF, g2⟩
  replace kR := kR.grew g2
  replace g0 := g0.trans g2
  go_wp2_with (refine st_bd rfl (.tmp 8) (.tmp 17) rfl rfl x' { s with c := c', m := s.m } kR rfl (by rfl) (by rfl) ?_; intro w3 kR3 o3)
  subst hA0
  exact bodyPost_ret (v := .tuple #[bdV x' { s with c := c', m := s.m }, .bool (ok)]) (results_bb (p := 8) (q := 9) Tryz.results8 _ _ R kR3 rfl) rfl ⟨x', c', ok, rfl, Lib.hid (H2.out.only o3 kR nb_zero (by decide)), HF, o3.grew g0 LR.out⟩
set_option maxHeartbeats 2000000 in
theorem store_ram {b : BX} {s : BS} {x n y : Int} {w : World} (hk : BOk s) (hb : Bd w b s) (p0 : 0 ≤ x) (p1 : x < 18446744073709551616) (y0 : 0 ≤ y) (y1 : y < 18446744073709551616) (h0 : inB x 33554432 65536 = false) (h1 : inB x 201326592 4194304 = false) (h2 : inB x 268435456 8 = false) (h3 : inB x 268439552 256 = false) : Calls Tryz.prog 8 #[bdV b s, .int .u64 x, .int .i64 n, .int .u64 y] w fun e w' => ∃ x', e = .returned (.tuple #[bdV x' { s with r := writeV s.r x n y }, .bool (sizeV n && insideV s.r.length x n)]) ∧ Hid (Bdr w' x' { s with r := writeV s.r x n y }) ∧ Grew w w' := by
  have HK := Lib.hid hk
  have HB := Lib.hid hb
  have q0 : (0 : Int) ≤ x := by omega
  have q1 : x < (18446744073709551616 : Int) := by omega
  have hF := Lib.hid (find_ram (b := b) (s := s) p0 p1 h0 h1 h2 h3)
  have HQ : Hid (((0 : Int) ≤ x ∧ x < (18446744073709551616 : Int)) ∧ (0 ≤ y ∧ y < 18446744073709551616)) := Lib.hid ⟨⟨q0, q1⟩, ⟨y0, y1⟩⟩
  clear hk hb p0 p1 q0 q1 y0 y1 h0 h1 h2 h3
  have hfd : ∀ A B (w : World), (Instr.field 56 (.agg #[.func (.func 61) #[] #[.pointer (some ⟨A, 0, none⟩), .pointer (some ⟨B, 0, none⟩)], .func (.func 63) #[] #[.pointer (some ⟨A, 0, none⟩), .pointer (some ⟨B, 0, none⟩)]]) 1).run Tryz.prog w = .ok (.func (.func 63) #[] #[.pointer (some ⟨A, 0, none⟩), .pointer (some ⟨B, 0, none⟩)]) w := fun _ _ _ => by kernel_rfl
  go_enter Tryz.func8, Tryz.ntmps8
  go_upto_region 1 with fail
  have kA : Blk ((w.alloc (.cells (bdA b s) 36)).alloc (.cells zeroB 36)) w.heap.size (bdA b s) 36 := (Blk.new _ _ _ _ rfl).alloc _
  have kR : Blk ((w.alloc (.cells (bdA b s) 36)).alloc (.cells zeroB 36)) (w.heap.size + 1) zeroB 36 := Blk.new _ _ _ _ (by simp)
  have g0 : Grew w ((w.alloc (.cells (bdA b s) 36)).alloc (.cells zeroB 36)) := ((Grew.refl w).alloc _).alloc _
  generalize ((w.alloc (.cells (bdA b s) 36)).alloc (.cells zeroB 36)) = w0 at *
  have lR : w.heap.size ≤ w.heap.size + 1 := Nat.le_succ _
  generalize w.heap.size + 1 = R at *
  have LR := Lib.hid lR
  clear lR
  generalize hA0 : w.heap.size = A0 at *
  go_wp2_with (refine ld_bd rfl (.tmp 4) rfl _ rfl kA (by rfl) ?_)
  refine (hF.out _).mono ?_
  rintro e w1 ⟨A, B, rfl, kA1, kB1, g1⟩
  replace kR := kR.grew g1
  replace g0 := g0.trans g1
  have hfd1 := hfd A B
  clear hfd kA g1
  have HB0 := Lib.hid (HB.out.grew g0)
  obtain ⟨⟨q0, q1⟩, y0, y1⟩ := HQ.out
  have hC := Lib.hid (ram_place HK.out HB0.out kA1 kB1 q0 q1 y0 y1 (n := n))
  clear q0 q1 y0 y1
  go_wp2_with fail
  refine hC.out.mono ?_
  rintro e w2 ⟨x', rfl, H2, g2⟩
  replace kR := kR.grew g2
  replace g0 := g0.trans g2
  go_wp2_with (refine st_bd rfl (.tmp 8) (.tmp 17) rfl rfl x' { s with r := writeV s.r x n y } kR rfl (by rfl) (by rfl) ?_; intro w3 kR3 o3)
  subst hA0
  exact bodyPost_ret (v := .tuple #[bdV x' { s with r := writeV s.r x n y }, .bool (sizeV n && insideV s.r.length x n)]) (results_bb (p := 8) (q := 9) Tryz.results8 _ _ R kR3 rfl) rfl ⟨x', rfl, Lib.hid (H2.out.only o3 kR nb_zero (by decide)), o3.grew g0 LR.out⟩
set_option maxHeartbeats 2000000 in
theorem loadRam_c {b : BX} {s : BS} {x n : Int} {w : World} (hk : BOk s) (hb : Bd w b s) (p0 : 0 ≤ x) (p1 : x < 18446744073709551616) (n0 : -9223372036854775808 ≤ n) (n1 : n ≤ 9223372036854775807) (h0 : inB x 33554432 65536 = false) (h1 : inB x 201326592 4194304 = false) (h2 : inB x 268435456 8 = false) (h3 : inB x 268439552 256 = false) : Calls Tryz.prog 11 #[bdV b s, .int .u64 x, .int .i64 n] w fun e w' => ∃ x', e = .returned (.tuple #[.int .u64 (readV s.r x n), bdV x' s, .bool (sizeV n && insideV s.r.length x n)]) ∧ Hid (Bdr w' x' s) ∧ Grew w w' := by
  have HK := Lib.hid hk
  have HB := Lib.hid hb
  have q0 : (0 : Int) ≤ x := by omega
  have q1 : x < (18446744073709551616 : Int) := by omega
  have hF := Lib.hid (find_ram (b := b) (s := s) p0 p1 h0 h1 h2 h3)
  have HQ : Hid (((0 : Int) ≤ x ∧ x < (18446744073709551616 : Int)) ∧ (-9223372036854775808 ≤ n ∧ n ≤ 9223372036854775807)) := Lib.hid ⟨⟨q0, q1⟩, ⟨n0, n1⟩⟩
  clear hk hb p0 p1 q0 q1 n0 n1 h0 h1 h2 h3
  have hfd : ∀ A B (w : World), (Instr.field 56 (.agg #[.func (.func 61) #[] #[.pointer (some ⟨A, 0, none⟩), .pointer (some ⟨B, 0, none⟩)], .func (.func 63) #[] #[.pointer (some ⟨A, 0, none⟩), .pointer (some ⟨B, 0, none⟩)]]) 0).run Tryz.prog w = .ok (.func (.func 61) #[] #[.pointer (some ⟨A, 0, none⟩), .pointer (some ⟨B, 0, none⟩)]) w := fun _ _ _ => by kernel_rfl
  go_enter Tryz.func11, Tryz.ntmps11
  go_upto_region 1 with fail
  have kA : Blk ((w.alloc (.cells (bdA b s) 36)).alloc (.cells zeroB 36)) w.heap.size (bdA b s) 36 := (Blk.new _ _ _ _ rfl).alloc _
  have kR : Blk ((w.alloc (.cells (bdA b s) 36)).alloc (.cells zeroB 36)) (w.heap.size + 1) zeroB 36 := Blk.new _ _ _ _ (by simp)
  have g0 : Grew w ((w.alloc (.cells (bdA b s) 36)).alloc (.cells zeroB 36)) := ((Grew.refl w).alloc _).alloc _
  generalize ((w.alloc (.cells (bdA b s) 36)).alloc (.cells zeroB 36)) = w0 at *
  have lR : w.heap.size ≤ w.heap.size + 1 := Nat.le_succ _
  generalize w.heap.size + 1 = R at *
  have LR := Lib.hid lR
  clear lR
  generalize hA0 : w.heap.size = A0 at *
  go_wp2_with (refine ld_bd rfl (.tmp 3) rfl _ rfl kA (by rfl) ?_)
  refine (hF.out _).mono ?_
  rintro e w1 ⟨A, B, rfl, kA1, kB1, g1⟩
  replace kR := kR.grew g1
  replace g0 := g0.trans g1
  have hfd1 := hfd A B
  clear hfd kA g1
  have HB0 := Lib.hid (HB.out.grew g0)
  obtain ⟨⟨q0, q1⟩, n0, n1⟩ := HQ.out
  have hC := Lib.hid (ram_at HK.out HB0.out kA1 kB1 q0 q1 n0 n1 (n := n))
  clear q0 q1 n0 n1
  go_wp2_with fail
  refine hC.out.mono ?_
  rintro e w2 ⟨x', rfl, H2, g2⟩
  replace kR := kR.grew g2
  replace g0 := g0.trans g2
  go_wp2_with (refine st_bd rfl (.tmp 7) (.tmp 16) rfl rfl x' s kR rfl (by rfl) (by rfl) ?_; intro w3 kR3 o3)
  subst hA0
  exact bodyPost_ret (v := .tuple #[.int .u64 (readV s.r x n), bdV x' s, .bool (sizeV n && insideV s.r.length x n)]) (results_xbb (r := 6) (p := 7) (q := 8) Tryz.results11 _ _ R kR3 rfl) rfl ⟨x', rfl, Lib.hid (H2.out.only o3 kR nb_zero (by decide)), o3.grew g0 LR.out⟩
end Go.Proofs.YtgcfmijkggpemaaGreat
set_option maxRecDepth 4000
set_option linter.unusedVariables false
set_option linter.unusedSimpArgs false
namespace Go.Proofs.YtgcfmijkggpemaaGreat
open Go.RowKit

theorem rSame_c {c : Nat → Int} {m : List Int} {a1 a2 : Option Addr} {k1 k2 : Nat} {w : World} (h1 : Buf w (.slice a1 m.length k1) m) (h2 : Buf w (.slice a2 m.length k2) m) : Calls Tryz.prog 19 #[ncV c (.slice a1 m.length k1), ncV c (.slice a2 m.length k2)] w fun e w' => e = .returned (.bool true) ∧ Grew w w' := by
  have H1 := Lib.hid h1
  have H2 := Lib.hid h2
  clear h1 h2
  generalize m.length = n at *
  go_enter Tryz.func19, Tryz.ntmps19
  go_upto_region 1 with fail
  have kN : Blk ((w.alloc (.cells (ncA c (.slice a1 n k1)) 34)).alloc (.cells (ncA c (.slice a2 n k2)) 34)) w.heap.size (ncA c (.slice a1 n k1)) 34 := (Blk.new w (ncA c (.slice a1 n k1)) 34 _ rfl).alloc (.cells (ncA c (.slice a2 n k2)) 34)
  have kM : Blk ((w.alloc (.cells (ncA c (.slice a1 n k1)) 34)).alloc (.cells (ncA c (.slice a2 n k2)) 34)) (w.heap.size + 1) (ncA c (.slice a2 n k2)) 34 := Blk.new (w.alloc (.cells (ncA c (.slice a1 n k1)) 34)) (ncA c (.slice a2 n k2)) 34 _ (by simp)
  have g0 : Grew w ((w.alloc (.cells (ncA c (.slice a1 n k1)) 34)).alloc (.cells (ncA c (.slice a2 n k2)) 34)) := ((Grew.refl w).alloc (.cells (ncA c (.slice a1 n k1)) 34)).alloc (.cells (ncA c (.slice a2 n k2)) 34)
  generalize ((w.alloc (.cells (ncA c (.slice a1 n k1)) 34)).alloc (.cells (ncA c (.slice a2 n k2)) 34)) = w0 at *
  have lN : w.heap.size ≤ w.heap.size := by omega
  have lM : w.heap.size ≤ (w.heap.size + 1) := by omega
  have nNM : w.heap.size ≠ (w.heap.size + 1) := by omega
  have nMN : (w.heap.size + 1) ≠ w.heap.size := by omega
  generalize (w.heap.size + 1) = M at *
  generalize hZ : w.heap.size = N at *
  have HZ := Lib.hid hZ
  clear hZ
  have LN : Hid (w.heap.size ≤ N) := Lib.hid (by rw [HZ.out]; exact lN)
  have LM : Hid (w.heap.size ≤ M) := Lib.hid (by rw [HZ.out]; exact lM)
  have y0 : w0.cell? ⟨N, 0, none⟩ = some (.int .i64 (c 0)) := kN.cell 0
  have y1 : w0.cell? ⟨N, 1, none⟩ = some (.int .i64 (c 1)) := kN.cell 1
  have y2 : w0.cell? ⟨N, 2, none⟩ = some (.int .i64 (c 2)) := kN.cell 2
  have y3 : w0.cell? ⟨N, 3, none⟩ = some (.int .u64 (c 3)) := kN.cell 3
  have y4 : w0.cell? ⟨N, 4, none⟩ = some (.int .i64 (c 4)) := kN.cell 4
  have y5 : w0.cell? ⟨N, 5, none⟩ = some (.int .i64 (c 5)) := kN.cell 5
  have y6 : w0.cell? ⟨N, 6, none⟩ = some (.int .i64 (c 6)) := kN.cell 6
  have y7 : w0.cell? ⟨N, 7, none⟩ = some (.int .u64 (c 7)) := kN.cell 7
  have y8 : w0.cell? ⟨N, 8, none⟩ = some (.int .i64 (c 8)) := kN.cell 8
  have y9 : w0.cell? ⟨N, 9, none⟩ = some (.int .i64 (c 9)) := kN.cell 9
  have y10 : w0.cell? ⟨N, 10, none⟩ = some (.int .i64 (c 10)) := kN.cell 10
  have y11 : w0.cell? ⟨N, 11, none⟩ = some (.int .i64 (c 11)) := kN.cell 11
  have y12 : w0.cell? ⟨N, 12, none⟩ = some (.int .i64 (c 12)) := kN.cell 12
  have y13 : w0.cell? ⟨N, 13, none⟩ = some (.slice a1 n k1) := kN.cell 13
  have z0 : w0.cell? ⟨M, 0, none⟩ = some (.int .i64 (c 0)) := kM.cell 0
  have z1 : w0.cell? ⟨M, 1, none⟩ = some (.int .i64 (c 1)) := kM.cell 1
  have z2 : w0.cell? ⟨M, 2, none⟩ = some (.int .i64 (c 2)) := kM.cell 2
  have z3 : w0.cell? ⟨M, 3, none⟩ = some (.int .u64 (c 3)) := kM.cell 3
  have z4 : w0.cell? ⟨M, 4, none⟩ = some (.int .i64 (c 4)) := kM.cell 4
  have z5 : w0.cell? ⟨M, 5, none⟩ = some (.int .i64 (c 5)) := kM.cell 5
  have z6 : w0.cell? ⟨M, 6, none⟩ = some (.int .i64 (c 6)) := kM.cell 6
  have z7 : w0.cell? ⟨M, 7, none⟩ = some (.int .u64 (c 7)) := kM.cell 7
  have z8 : w0.cell? ⟨M, 8, none⟩ = some (.int .i64 (c 8)) := kM.cell 8
  have z9 : w0.cell? ⟨M, 9, none⟩ = some (.int .i64 (c 9)) := kM.cell 9
  have z10 : w0.cell? ⟨M, 10, none⟩ = some (.int .i64 (c 10)) := kM.cell 10
  have z11 : w0.cell? ⟨M, 11, none⟩ = some (.int .i64 (c 11)) := kM.cell 11
  have z12 : w0.cell? ⟨M, 12, none⟩ = some (.int .i64 (c 12)) := kM.cell 12
  have z13 : w0.cell? ⟨M, 13, none⟩ = some (.slice a2 n k2) := kM.cell 13
  have e1 := convert_bytes (H1.out.grew g0).bytes
  have e2 := convert_bytes (H2.out.grew g0).bytes
  clear kN kM
  go_wp2_with fail
  go_ret
  exact ⟨rfl, g0⟩

theorem fw_0 {ops : Array Oper} {rest : List Oper} {o : Oper} {a : Act} {w : World} {Q : Exit → Act → World → Prop} (hw : Region.wanted o (yielded ops a.tmps) = true) (v : Operand) (ho : o.op = .fieldAddr 36 v 0) (d : Option Tmp) (hd : o.dst = d) (g : Nat)
    (hx : a.eval v = .pointer (some ⟨g, 0, none⟩)) (h : wpList Tryz.prog ops Q rest (a.put d (.pointer (some ⟨g, 0, none⟩))) w) : wpList Tryz.prog ops Q (o :: rest) a w :=
  BigFrame.wpList_want hw fun K hK => wp_fieldAt _ v 0 ho d hd _ (.pointer (some ⟨g, 0, none⟩)) hx (by kernel_rfl) (hK _ _ h)
theorem fw_1 {ops : Array Oper} {rest : List Oper} {o : Oper} {a : Act} {w : World} {Q : Exit → Act → World → Prop} (hw : Region.wanted o (yielded ops a.tmps) = true) (v : Operand) (ho : o.op = .fieldAddr 36 v 1) (d : Option Tmp) (hd : o.dst = d) (g : Nat)
    (hx : a.eval v = .pointer (some ⟨g, 0, none⟩)) (h : wpList Tryz.prog ops Q rest (a.put d (.pointer (some ⟨g, 1, none⟩))) w) : wpList Tryz.prog ops Q (o :: rest) a w :=
  BigFrame.wpList_want hw fun K hK => wp_fieldAt _ v 1 ho d hd _ (.pointer (some ⟨g, 1, none⟩)) hx (by kernel_rfl) (hK _ _ h)
theorem fw_2 {ops : Array Oper} {rest : List Oper} {o : Oper} {a : Act} {w : World} {Q : Exit → Act → World → Prop} (hw : Region.wanted o (yielded ops a.tmps) = true) (v : Operand) (ho : o.op = .fieldAddr 36 v 2) (d : Option Tmp) (hd : o.dst = d) (g : Nat)
    (hx : a.eval v = .pointer (some ⟨g, 0, none⟩)) (h : wpList Tryz.prog ops Q rest (a.put d (.pointer (some ⟨g, 4, none⟩))) w) : wpList Tryz.prog ops Q (o :: rest) a w :=
  BigFrame.wpList_want hw fun K hK => wp_fieldAt _ v 2 ho d hd _ (.pointer (some ⟨g, 4, none⟩)) hx (by kernel_rfl) (hK _ _ h)
theorem fw_3 {ops : Array Oper} {rest : List Oper} {o : Oper} {a : Act} {w : World} {Q : Exit → Act → World → Prop} (hw : Region.wanted o (yielded ops a.tmps) = true) (v : Operand) (ho : o.op = .fieldAddr 36 v 3) (d : Option Tmp) (hd : o.dst = d) (g : Nat)
    (hx : a.eval v = .pointer (some ⟨g, 0, none⟩)) (h : wpList Tryz.prog ops Q rest (a.put d (.pointer (some ⟨g, 9, none⟩))) w) : wpList Tryz.prog ops Q (o :: rest) a w :=
  BigFrame.wpList_want hw fun K hK => wp_fieldAt _ v 3 ho d hd _ (.pointer (some ⟨g, 9, none⟩)) hx (by kernel_rfl) (hK _ _ h)
theorem fw_4 {ops : Array Oper} {rest : List Oper} {o : Oper} {a : Act} {w : World} {Q : Exit → Act → World → Prop} (hw : Region.wanted o (yielded ops a.tmps) = true) (v : Operand) (ho : o.op = .fieldAddr 36 v 4) (d : Option Tmp) (hd : o.dst = d) (g : Nat)
    (hx : a.eval v = .pointer (some ⟨g, 0, none⟩)) (h : wpList Tryz.prog ops Q rest (a.put d (.pointer (some ⟨g, 13, none⟩))) w) : wpList Tryz.prog ops Q (o :: rest) a w :=
  BigFrame.wpList_want hw fun K hK => wp_fieldAt _ v 4 ho d hd _ (.pointer (some ⟨g, 13, none⟩)) hx (by kernel_rfl) (hK _ _ h)
theorem lw_rmP {ops : Array Oper} {rest : List Oper} {o : Oper} {a : Act} {w : World} {Q : Exit → Act → World → Prop} (hw : Region.wanted o (yielded ops a.tmps) = true) (v : Operand) (ho : o.op = .load 24 v) (d : Option Tmp) (hd : o.dst = d) {g : Nat} {x : BX} {s : BS} {T : TypeId}
    (k : Blk w g (bdA x s) T) (hx : a.eval v = .pointer (some ⟨g, 0, none⟩)) (h : wpList Tryz.prog ops Q rest (a.put d (.agg (rmP x s))) w) : wpList Tryz.prog ops Q (o :: rest) a w :=
  BigFrame.wpList_want hw fun K hK => wp_load_part _ v ho d hd k (rmP x s) hx _ Tryz.underlying24 rfl rmInfo rfl (hK _ _ h)
theorem lw_clP {ops : Array Oper} {rest : List Oper} {o : Oper} {a : Act} {w : World} {Q : Exit → Act → World → Prop} (hw : Region.wanted o (yielded ops a.tmps) = true) (v : Operand) (ho : o.op = .load 27 v) (d : Option Tmp) (hd : o.dst = d) {g : Nat} {x : BX} {s : BS} {T : TypeId}
    (k : Blk w g (bdA x s) T) (hx : a.eval v = .pointer (some ⟨g, 1, none⟩)) (h : wpList Tryz.prog ops Q rest (a.put d (.agg (clP s))) w) : wpList Tryz.prog ops Q (o :: rest) a w :=
  BigFrame.wpList_want hw fun K hK => wp_load_part _ v ho d hd k (clP s) hx _ Tryz.underlying27 rfl clInfo rfl (hK _ _ h)
theorem lw_plP {ops : Array Oper} {rest : List Oper} {o : Oper} {a : Act} {w : World} {Q : Exit → Act → World → Prop} (hw : Region.wanted o (yielded ops a.tmps) = true) (v : Operand) (ho : o.op = .load 30 v) (d : Option Tmp) (hd : o.dst = d) {g : Nat} {x : BX} {s : BS} {T : TypeId}
    (k : Blk w g (bdA x s) T) (hx : a.eval v = .pointer (some ⟨g, 4, none⟩)) (h : wpList Tryz.prog ops Q rest (a.put d (.agg (plP x s))) w) : wpList Tryz.prog ops Q (o :: rest) a w :=
  BigFrame.wpList_want hw fun K hK => wp_load_part _ v ho d hd k (plP x s) hx _ Tryz.underlying30 rfl plInfo rfl (hK _ _ h)
theorem lw_uaP {ops : Array Oper} {rest : List Oper} {o : Oper} {a : Act} {w : World} {Q : Exit → Act → World → Prop} (hw : Region.wanted o (yielded ops a.tmps) = true) (v : Operand) (ho : o.op = .load 32 v) (d : Option Tmp) (hd : o.dst = d) {g : Nat} {x : BX} {s : BS} {T : TypeId}
    (k : Blk w g (bdA x s) T) (hx : a.eval v = .pointer (some ⟨g, 9, none⟩)) (h : wpList Tryz.prog ops Q rest (a.put d (.agg (uaP x s))) w) : wpList Tryz.prog ops Q (o :: rest) a w :=
  BigFrame.wpList_want hw fun K hK => wp_load_part _ v ho d hd k (uaP x s) hx _ Tryz.underlying32 rfl uaInfo rfl (hK _ _ h)
theorem lw_nnP {ops : Array Oper} {rest : List Oper} {o : Oper} {a : Act} {w : World} {Q : Exit → Act → World → Prop} (hw : Region.wanted o (yielded ops a.tmps) = true) (v : Operand) (ho : o.op = .load 34 v) (d : Option Tmp) (hd : o.dst = d) {g : Nat} {x : BX} {s : BS} {T : TypeId}
    (k : Blk w g (bdA x s) T) (hx : a.eval v = .pointer (some ⟨g, 13, none⟩)) (h : wpList Tryz.prog ops Q rest (a.put d (.agg (ncP x s))) w) : wpList Tryz.prog ops Q (o :: rest) a w :=
  BigFrame.wpList_want hw fun K hK => wp_load_part _ v ho d hd k (ncP x s) hx _ Tryz.underlying34 rfl ncInfo rfl (hK _ _ h)
theorem q_bd {ops : Array Oper} {C : World → Prop} {Q : Act → Prop} {rest : List Oper} {o : Oper} {a : Act} (hw : Region.wanted o (yielded ops a.tmps) = true) (v : Operand) (ho : o.op = .load 36 v) (d : Option Tmp) (hd : o.dst = d) {g : Nat} {x : BX} {s : BS} {T : TypeId}
    (k : ∀ w, C w → Blk w g (bdA x s) T) (hx : a.eval v = .pointer (some ⟨g, 0, none⟩)) (h : wpQuiet Tryz.prog ops C Q rest (a.put d (.agg (bdA x s)))) : wpQuiet Tryz.prog ops C Q (o :: rest) a :=
  wpQuiet_load_part hw _ v ho d hd k (bdA x s) hx _ Tryz.underlying36 rfl bdInfo rfl h
theorem q_cl {ops : Array Oper} {C : World → Prop} {Q : Act → Prop} {rest : List Oper} {o : Oper} {a : Act} (hw : Region.wanted o (yielded ops a.tmps) = true) (v : Operand) (ho : o.op = .load 27 v) (d : Option Tmp) (hd : o.dst = d) {g : Nat} {x : BX} {s : BS} {T : TypeId}
    (k : ∀ w, C w → Blk w g (bdA x s) T) (hx : a.eval v = .pointer (some ⟨g, 1, none⟩)) (h : wpQuiet Tryz.prog ops C Q rest (a.put d (.agg (clP s)))) : wpQuiet Tryz.prog ops C Q (o :: rest) a :=
  wpQuiet_load_part hw _ v ho d hd k (clP s) hx _ Tryz.underlying27 rfl clInfo rfl h
theorem q_pl {ops : Array Oper} {C : World → Prop} {Q : Act → Prop} {rest : List Oper} {o : Oper} {a : Act} (hw : Region.wanted o (yielded ops a.tmps) = true) (v : Operand) (ho : o.op = .load 30 v) (d : Option Tmp) (hd : o.dst = d) {g : Nat} {x : BX} {s : BS} {T : TypeId}
    (k : ∀ w, C w → Blk w g (bdA x s) T) (hx : a.eval v = .pointer (some ⟨g, 4, none⟩)) (h : wpQuiet Tryz.prog ops C Q rest (a.put d (.agg (plP x s)))) : wpQuiet Tryz.prog ops C Q (o :: rest) a :=
  wpQuiet_load_part hw _ v ho d hd k (plP x s) hx _ Tryz.underlying30 rfl plInfo rfl h
theorem q_ua {ops : Array Oper} {C : World → Prop} {Q : Act → Prop} {rest : List Oper} {o : Oper} {a : Act} (hw : Region.wanted o (yielded ops a.tmps) = true) (v : Operand) (ho : o.op = .load 32 v) (d : Option Tmp) (hd : o.dst = d) {g : Nat} {x : BX} {s : BS} {T : TypeId}
    (k : ∀ w, C w → Blk w g (bdA x s) T) (hx : a.eval v = .pointer (some ⟨g, 9, none⟩)) (h : wpQuiet Tryz.prog ops C Q rest (a.put d (.agg (uaP x s)))) : wpQuiet Tryz.prog ops C Q (o :: rest) a :=
  wpQuiet_load_part hw _ v ho d hd k (uaP x s) hx _ Tryz.underlying32 rfl uaInfo rfl h
theorem q_nn {ops : Array Oper} {C : World → Prop} {Q : Act → Prop} {rest : List Oper} {o : Oper} {a : Act} (hw : Region.wanted o (yielded ops a.tmps) = true) (v : Operand) (ho : o.op = .load 34 v) (d : Option Tmp) (hd : o.dst = d) {g : Nat} {x : BX} {s : BS} {T : TypeId}
    (k : ∀ w, C w → Blk w g (bdA x s) T) (hx : a.eval v = .pointer (some ⟨g, 13, none⟩)) (h : wpQuiet Tryz.prog ops C Q rest (a.put d (.agg (ncP x s)))) : wpQuiet Tryz.prog ops C Q (o :: rest) a :=
  wpQuiet_load_part hw _ v ho d hd k (ncP x s) hx _ Tryz.underlying34 rfl ncInfo rfl h
theorem lw_bd {ops : Array Oper} {rest : List Oper} {o : Oper} {a : Act} {w : World} {Q : Exit → Act → World → Prop} (hw : Region.wanted o (yielded ops a.tmps) = true) (v : Operand) (ho : o.op = .load 36 v) (d : Option Tmp) (hd : o.dst = d) {g : Nat} {x : BX} {s : BS} {T : TypeId}
    (k : Blk w g (bdA x s) T) (hx : a.eval v = .pointer (some ⟨g, 0, none⟩)) (h : wpList Tryz.prog ops Q rest (a.put d (bdV x s)) w) : wpList Tryz.prog ops Q (o :: rest) a w := by
  subst hd
  exact BigFrame.wpList_want hw fun K hK => wp_load_row _ v ho g hx T (bdA x s) (0, 0) _ k Tryz.underlying36 rfl bdInfo (hK _ _ h)
theorem rmSame {x y : BX} {s : BS} {w : World} (ha : Bd w x s) (hb : Bd w y s) : Calls Tryz.prog 16 #[.agg (rmP x s), .agg (rmP y s)] w fun e w' => e = .returned (.bool true) ∧ Grew w w' := same_b w ha.r hb.r rfl
theorem plSame {x y : BX} {s : BS} {w : World} (ha : Bd w x s) (hb : Bd w y s) : Calls Tryz.prog 17 #[.agg (plP x s), .agg (plP y s)] w fun e w' => e = .returned (.bool true) ∧ Grew w w' := plSame_c ha.p hb.p (Grew.refl w)
theorem uaSame {x y : BX} {s : BS} {w : World} (ha : Bd w x s) (hb : Bd w y s) : Calls Tryz.prog 18 #[.agg (uaP x s), .agg (uaP y s)] w fun e w' => e = .returned (.bool true) ∧ Grew w w' := uaSame_c ha.u hb.u
theorem ncSame {x y : BX} {s : BS} {w : World} (ha : Bd w x s) (hb : Bd w y s) : Calls Tryz.prog 19 #[.agg (ncP x s), .agg (ncP y s)] w fun e w' => e = .returned (.bool true) ∧ Grew w w' := rSame_c ha.m hb.m
set_option maxHeartbeats 4000000 in
theorem Same_c {x y : BX} {s : BS} {w : World} (ha : Bd w x s) (hb : Bd w y s) : Calls Tryz.prog 9 #[bdV x s, bdV y s] w fun e w' => e = .returned (.bool true) ∧ Grew w w' := by
  have HA := Lib.hid ha
  have HB := Lib.hid hb
  clear ha hb
  have hcl := cl_eql s.T s.C s.S
  go_enter Tryz.func9, Tryz.ntmps9
  go_upto_region 1 with fail
  have kA : Blk ((w.alloc (.cells (bdA x s) 36)).alloc (.cells (bdA y s) 36)) w.heap.size (bdA x s) 36 := (Blk.new _ _ _ _ rfl).alloc _
  have kB : Blk ((w.alloc (.cells (bdA x s) 36)).alloc (.cells (bdA y s) 36)) (w.heap.size + 1) (bdA y s) 36 := Blk.new _ _ _ _ (by simp)
  have g0 : Grew w ((w.alloc (.cells (bdA x s) 36)).alloc (.cells (bdA y s) 36)) := ((Grew.refl w).alloc _).alloc _
  generalize ((w.alloc (.cells (bdA x s) 36)).alloc (.cells (bdA y s) 36)) = w0 at *
  generalize w.heap.size + 1 = B at *
  generalize w.heap.size = A at *
  go_wp2_with (first | refine fw_0 (by rfl) (.tmp 2) rfl _ rfl A (by rfl) ?_ | refine fw_0 (by rfl) (.tmp 3) rfl _ rfl B (by rfl) ?_ | refine lw_rmP (by rfl) (.tmp 5) rfl _ rfl kA (by rfl) ?_ | refine lw_rmP (by rfl) (.tmp 7) rfl _ rfl kB (by rfl) ?_)
  refine (rmSame (HA.out.grew g0) (HB.out.grew g0)).mono ?_
  rintro e w1 ⟨rfl, g1⟩
  replace kA := kA.grew g1
  replace kB := kB.grew g1
  replace g0 := g0.trans g1
  clear g1
  go_wp2_with (first | refine fw_1 (by rfl) (.tmp 2) rfl _ rfl A (by rfl) ?_ | refine fw_1 (by rfl) (.tmp 3) rfl _ rfl B (by rfl) ?_ | refine lw_clP (by rfl) (.tmp 11) rfl _ rfl kA (by rfl) ?_ | refine lw_clP (by rfl) (.tmp 13) rfl _ rfl kB (by rfl) ?_ | refine fw_2 (by rfl) (.tmp 2) rfl _ rfl A (by rfl) ?_ | refine fw_2 (by rfl) (.tmp 3) rfl _ rfl B (by rfl) ?_ | refine lw_plP (by rfl) (.tmp 18) rfl _ rfl kA (by rfl) ?_ | refine lw_plP (by rfl) (.tmp 20) rfl _ rfl kB (by rfl) ?_)
  refine (plSame (HA.out.grew g0) (HB.out.grew g0)).mono ?_
  rintro e w2 ⟨rfl, g1⟩
  replace kA := kA.grew g1
  replace kB := kB.grew g1
  replace g0 := g0.trans g1
  clear g1 hcl
  go_wp2_with (first | refine fw_3 (by rfl) (.tmp 2) rfl _ rfl A (by rfl) ?_ | refine fw_3 (by rfl) (.tmp 3) rfl _ rfl B (by rfl) ?_ | refine lw_uaP (by rfl) (.tmp 25) rfl _ rfl kA (by rfl) ?_ | refine lw_uaP (by rfl) (.tmp 27) rfl _ rfl kB (by rfl) ?_)
  refine (uaSame (HA.out.grew g0) (HB.out.grew g0)).mono ?_
  rintro e w3 ⟨rfl, g1⟩
  replace kA := kA.grew g1
  replace kB := kB.grew g1
  replace g0 := g0.trans g1
  clear g1
  go_wp2_with (first | refine fw_4 (by rfl) (.tmp 2) rfl _ rfl A (by rfl) ?_ | refine fw_4 (by rfl) (.tmp 3) rfl _ rfl B (by rfl) ?_ | refine lw_nnP (by rfl) (.tmp 32) rfl _ rfl kA (by rfl) ?_ | refine lw_nnP (by rfl) (.tmp 34) rfl _ rfl kB (by rfl) ?_)
  refine (ncSame (HA.out.grew g0) (HB.out.grew g0)).mono ?_
  rintro e w4 ⟨rfl, g1⟩
  replace kA := kA.grew g1
  replace kB := kB.grew g1
  replace g0 := g0.trans g1
  clear g1
  go_wp2_with fail
  go_ret
  exact ⟨rfl, g0⟩
theorem small_c {x : BX} {s : BS} (w : World) : Calls Tryz.prog 6 #[bdV x s] w fun e w' => e = .returned (.bool (decide (s.r.length ≤ 70000) && decide (s.u.i.length ≤ 5000) && decide (s.u.o.length ≤ 5000))) ∧ Grew w w' := by
  cases d0 : decide (s.r.length ≤ 70000) <;> cases d1 : decide (s.u.i.length ≤ 5000) <;> cases d2 : decide (s.u.o.length ≤ 5000)
  all_goals
    simp only [decide_eq_true_eq, decide_eq_false_iff_not] at d0 d1 d2
    have e0 : ((s.r.length : Int) ≤ 70000) = (s.r.length ≤ 70000) := by apply propext; omega
    have e1 : ((s.u.i.length : Int) ≤ 5000) = (s.u.i.length ≤ 5000) := by apply propext; omega
    have e2 : ((s.u.o.length : Int) ≤ 5000) = (s.u.o.length ≤ 5000) := by apply propext; omega
    go_enter Tryz.func6, Tryz.ntmps6
    go_upto_region 1 with fail
    have kA : Blk (w.alloc (.cells (bdA x s) 36)) w.heap.size (bdA x s) 36 := Blk.new _ _ _ _ rfl
    have g0 : Grew w (w.alloc (.cells (bdA x s) 36)) := (Grew.refl w).alloc _
    generalize (w.alloc (.cells (bdA x s) 36)) = w0 at *
    generalize w.heap.size = A at *
    have y0 : w0.cell? ⟨A, 0, none⟩ = some (.slice x.ra s.r.length x.rc) := kA.cell 0
    have y1 : w0.cell? ⟨A, 9, none⟩ = some (.slice x.ia s.u.i.length x.ic) := kA.cell 9
    have y2 : w0.cell? ⟨A, 10, none⟩ = some (.slice x.oa s.u.o.length x.oc) := kA.cell 10
    generalize s.r.length = n0 at *
    generalize s.u.i.length = n1 at *
    generalize s.u.o.length = n2 at *
    clear kA
    go_wp2_with fail
    go_ret
    exact ⟨rfl, g0⟩
/-- A bit that is up. -/
def bitV (x : Int) (up : Bool) : Int := if up = true then x else 0
theorem bit_c (x : Int) (up : Bool) (w : World) : Calls Tryz.prog 23 #[.int .i64 x, .bool up] w fun e w' => e = .returned (.int .i64 (bitV x up)) ∧ w = w' := by
  unfold bitV
  cases up
  all_goals
    go_enter Tryz.func23, Tryz.ntmps23
    go_wp2_with fail
    go_ret
    exact ⟨rfl, rfl⟩
/-- The sources whose lines are up. -/
def srcV (s : BS) : Int := bits .or .i64 (bitV 2 (lineV s.u)) (bitV 4 (lineB s.c s.m.length))

set_option maxHeartbeats 4000000 in
theorem sources_c {x : BX} {s : BS} (w : World) : Calls Tryz.prog 21 #[bdV x s] w fun e w' => e = .returned (.int .i64 (srcV s)) ∧ Grew w w' := by
  unfold srcV
  have hU := Lib.hid (uaLine_c s.u x.ia x.ic x.oa x.oc)
  have hN := Lib.hid (ncLine_c s.c x.ma s.m.length x.mc)
  generalize lineB s.c s.m.length = bn at *
  generalize lineV s.u = bu at *
  go_enter Tryz.func21, Tryz.ntmps21
  go_upto_region 1 with fail
  have kA : Blk (w.alloc (.cells (bdA x s) 36)) w.heap.size (bdA x s) 36 := Blk.new _ _ _ _ rfl
  have g0 : Grew w (w.alloc (.cells (bdA x s) 36)) := (Grew.refl w).alloc _
  generalize (w.alloc (.cells (bdA x s) 36)) = w0 at *
  generalize w.heap.size = A at *
  refine region_over (by kernel_rfl) (by kernel_rfl) ?_
  repeat (first | (refine q_ua (by rfl) (.tmp 3) rfl _ rfl (fun _ ⟨z, e⟩ => e ▸ kA.over z) (by rfl) ?_; simp only [Act.put, List.setIfInBounds_toArray, List.set_cons_zero, List.set_cons_succ]) | (refine q_nn (by rfl) (.tmp 7) rfl _ rfl (fun _ ⟨z, e⟩ => e ▸ kA.over z) (by rfl) ?_; simp only [Act.put, List.setIfInBounds_toArray, List.set_cons_zero, List.set_cons_succ]) | go_big_quiet_step (((first | (go_at_call 40; exact over_grew (hU.out _)) | (go_at_call 41; exact over_grew (hN.out _)) | (go_at_call 23; exact over_same (bit_c _ _ _))))))
  refine wpQuiet_nil ?_
  intro z
  have gz := g0.trans z.g
  go_wp2_with fail
  go_ret
  exact ⟨rfl, gz⟩
/-- A board when the interrupt controller has been told the lines. -/
def setB (s : BS) : BS := { s with p := setS s.p (srcV s) }
/-- The interrupts of the processor that are up. -/
def linesV (s : BS) : Int := IntKind.u64.wrap (bits .or .i64 (bits .or .i64 (bits .or .i64 (bitV 8 s.S) (bitV 128 (decide (s.C ≤ s.T)))) (bitV 2048 (bestS s.p 0 != 0))) (bitV 512 (bestS s.p 1 != 0)))

end Go.Proofs.YtgcfmijkggpemaaGreat
set_option maxRecDepth 4000
set_option linter.unusedVariables false
set_option linter.unusedSimpArgs false
namespace Go.Proofs.YtgcfmijkggpemaaGreat
open Go.RowKit

set_option maxHeartbeats 8000000 in
theorem lines_B {x : BX} {s : BS} {w : World} (hk : BOk s) (hk2 : BOk (setB s)) (hb : Bd w x s) : Calls Tryz.prog 12 #[bdV x s] w fun e w' => ∃ x', e = .returned (.tuple #[bdV x' (setB s), .int .u64 (linesV (setB s))]) ∧ Hid (Bdr w' x' (setB s)) ∧ Grew w w' := by
  have HK := Lib.hid hk
  have HB := Lib.hid hb
  generalize h3 : setB s = s3 at *
  have HK2 := Lib.hid hk2
  have H3 := Lib.hid h3
  clear hk hk2 hb h3
  obtain ⟨lv, hl⟩ : ∃ lv, linesV s3 = lv := ⟨_, rfl⟩
  rw [hl]
  unfold linesV at hl
  have HL := Lib.hid hl
  clear hl
  have hS := Lib.hid (sources_c (x := x) (s := s))
  go_enter Tryz.func12, Tryz.ntmps12
  go_upto_region 1 with fail
  have kA : Blk ((w.alloc (.cells (bdA x s) 36)).alloc (.cells zeroB 36)) w.heap.size (bdA x s) 36 := (Blk.new _ _ _ _ rfl).alloc _
  have kR : Blk ((w.alloc (.cells (bdA x s) 36)).alloc (.cells zeroB 36)) (w.heap.size + 1) zeroB 36 := Blk.new _ _ _ _ (by simp)
  have g0 : Grew w ((w.alloc (.cells (bdA x s) 36)).alloc (.cells zeroB 36)) := ((Grew.refl w).alloc _).alloc _
  generalize ((w.alloc (.cells (bdA x s) 36)).alloc (.cells zeroB 36)) = w0 at *
  have nAR : w.heap.size ≠ w.heap.size + 1 := by omega
  have lA : w.heap.size ≤ w.heap.size := Nat.le_refl _
  have lR : w.heap.size ≤ w.heap.size + 1 := Nat.le_succ _
  generalize w.heap.size + 1 = R at *
  generalize hZ : w.heap.size = A at *
  have HZ := Lib.hid hZ
  clear hZ
  have LA : Hid (w.heap.size ≤ A) := Lib.hid (by rw [HZ.out]; exact lA)
  have LR : Hid (w.heap.size ≤ R) := Lib.hid (by rw [HZ.out]; exact lR)
  generalize hv : srcV s = sv at *
  have HV := Lib.hid hv
  clear hv
  refine region_over_tail 4 (by kernel_rfl) (by kernel_rfl) ?_
  simp only [List.take_succ_cons, List.take_zero, List.drop_succ_cons, List.drop_zero]
  repeat (first | (refine q_pl (by rfl) (.tmp 7) rfl _ rfl (fun _ ⟨z, e⟩ => e ▸ kA.over z) (by rfl) ?_; simp only [Act.put, List.setIfInBounds_toArray, List.set_cons_zero, List.set_cons_succ]) | (refine q_bd (by rfl) (.tmp 1) rfl _ rfl (fun _ ⟨z, e⟩ => e ▸ kA.over z) (by rfl) ?_; simp only [Act.put, List.setIfInBounds_toArray, List.set_cons_zero, List.set_cons_succ]) | go_big_quiet_step ((go_at_call 21; exact over_grew (hS.out _))))
  refine wpQuiet_nil ?_
  intro z
  clear hS
  replace kA := kA.over z
  replace kR := kR.over z
  replace g0 := g0.trans z.g
  generalize z.w = w1 at *
  clear z
  have hset := Lib.hid (set_t (v := .agg (plP x s)) (w := w1) ⟨HK.out.pr, HK.out.en, HK.out.th⟩ sv (HB.out.grew g0).p)
  go_wp2_with fail
  refine hset.out.mono ?_
  rintro e w2 ⟨v', rfl, HP, g1⟩
  obtain ⟨pa', pc', ea', ec', ta', tc', rfl⟩ := HP.out.pl.shaped
  rw [← HV.out] at HP
  rw [← HV.out]
  replace kA := kA.grew g1
  replace kR := kR.grew g1
  replace g0 := g0.trans g1
  clear g1 hset
  go_upto_region 2 with (first | refine fa_2 rfl (.tmp 1) rfl _ rfl A (by rfl) ?_ | (refine st_plP rfl (.tmp 12) (.tmp 11) rfl rfl (setS s.p (srcV s)) pa' pc' ea' ec' ta' tc' kA (by rfl) (by rfl) ?_; intro w3 kA3 o3))
  have nb := nb_bd x s
  have HP3 := Lib.hid ((HP.out.only o3 kA (by decide)).low (Nat.zero_le _))
  replace kR := kR.only o3 nAR.symm
  replace g0 := o3.grew g0 LA.out
  clear HP o3 kA nb
  have eb : setB s = { s with p := setS s.p (srcV s) } := rfl
  have kA : Blk w3 A (bdA { x with pa := pa', pc := pc', ea := ea', ec := ec', ta := ta', tc := tc' } (setB s)) 36 := kA3
  clear kA3 eb
  have HB3 : Hid (Bd w3 { x with pa := pa', pc := pc', ea := ea', ec := ec', ta := ta', tc := tc' } (setB s)) := Lib.hid ⟨HB.out.r.grew g0, HP3.out.pl, HB.out.u.grew g0, HB.out.m.grew g0⟩
  clear HP3 HV
  generalize ({ x with pa := pa', pc := pc', ea := ea', ec := ec', ta := ta', tc := tc' } : BX) = x3 at *
  rw [H3.out] at kA HB3
  go_upto_region 3 with (first | refine fa_1 rfl (.tmp 1) rfl _ rfl A (by rfl) ?_ | refine ld_clP rfl (.tmp 14) rfl _ rfl kA (by rfl) ?_ | (go_at_call 22; refine (clLines_c s3.T s3.C s3.S (Grew.refl _)).mono ?_; rintro e w4 ⟨rfl, g1⟩))
  replace kA := kA.grew g1
  replace kR := kR.grew g1
  replace g0 := g0.trans g1
  have HB4 := Lib.hid (HB3.out.grew g1)
  clear g1 HB3
  have hB0 := Lib.hid (fun z : Over w4 => best_t 0 (HB4.out.grew z.g).p)
  have hB1 := Lib.hid (fun z : Over w4 => best_t 1 (HB4.out.grew z.g).p)
  generalize bestS s3.p 0 = q0 at *
  generalize bestS s3.p 1 = q1 at *
  refine region_over (by kernel_rfl) (by kernel_rfl) ?_
  repeat (first | (refine q_pl (by rfl) (.tmp 24) rfl _ rfl (fun _ ⟨z, e⟩ => e ▸ kA.over z) (by rfl) ?_; simp only [Act.put, List.setIfInBounds_toArray, List.set_cons_zero, List.set_cons_succ]) | (refine q_pl (by rfl) (.tmp 30) rfl _ rfl (fun _ ⟨z, e⟩ => e ▸ kA.over z) (by rfl) ?_; simp only [Act.put, List.setIfInBounds_toArray, List.set_cons_zero, List.set_cons_succ]) | go_big_quiet_step (((first | (go_at_call 24; with_reducible exact over_grew (hB0.out _)) | (go_at_call 24; with_reducible exact over_grew (hB1.out _)) | (go_at_call 23; exact over_same (bit_c _ _ _))))))
  refine wpQuiet_nil ?_
  intro z
  clear hB0 hB1
  replace kA := kA.over z
  replace kR := kR.over z
  replace g0 := g0.trans z.g
  have HB5 := Lib.hid (HB4.out.grew z.g)
  clear HB4
  generalize z.w = w5 at *
  clear z
  go_wp2_with (refine ld_bd rfl (.tmp 1) rfl _ rfl kA (by rfl) ?_)
  refine (ownB_c HK2.out HB5.out).mono ?_
  rintro e w6 ⟨x6, rfl, H6, g1⟩
  replace kR := kR.grew g1
  replace g0 := g0.trans g1
  clear g1 kA
  go_wp2_with (refine st_bd rfl (.tmp 2) (.tmp 37) rfl rfl x6 s3 kR rfl (by rfl) (by rfl) ?_; intro w7 kR7 o7)
  exact bodyPost_ret (v := .tuple #[bdV x6 s3, .int .u64 (IntKind.u64.wrap (bits .or .i64 (bits .or .i64 (bits .or .i64 (bitV 8 s3.S) (bitV 128 (decide (s3.C ≤ s3.T)))) (bitV 2048 (q0 != 0))) (bitV 512 (q1 != 0))))]) (results_bb (p := 2) (q := 3) Tryz.results12 _ _ R kR7 rfl) rfl ⟨x6, by rw [HL.out], Lib.hid (H6.out.only o7 kR nb_zero (by decide)), o7.grew g0 LR.out⟩
end Go.Proofs.YtgcfmijkggpemaaGreat
set_option maxRecDepth 4000
set_option linter.unusedVariables false
set_option linter.unusedSimpArgs false
namespace Go.Proofs.YtgcfmijkggpemaaGreat
open Go.RowKit

def hm6 : List Int := [0, 0, 0, 0, 0, 0]
/-- A new board with memory zs. -/
def newS (zs : List Int) : BS := ⟨zs, 0, 0, false, newV.ps, ⟨[], [], 0, 0⟩, newC hm6, hm6⟩
def zX : BX := ⟨none, 0, none, 0, none, 0, none, 0, none, 0, none, 0, none, 0⟩
def zS : BS := ⟨[], 0, 0, false, ⟨[], 0, 0, [], []⟩, ⟨[], [], 0, 0⟩, fun _ => 0, []⟩
theorem results_be {fn : Func} {p q : Tmp} (h : fn.results = #[.cell p 36, .tmp q]) (tmps : Array Value) (w : World) (g : Nat) {x : BX} {s : BS} {T : TypeId} (k : Blk w g (bdA x s) T)
    (hp : tmps.getD p undef = .pointer (some ⟨g, 0, none⟩)) : (results fn tmps).run Tryz.prog w = .ok (.tuple #[bdV x s, tmps.getD q undef]) w := results_bb h tmps w g k hp

/-- What the operations of a region give. -/
def bnR (ra : Option Addr) (ma : Option Addr) (mc : Nat) (zs : List Int) : (Nat → Value) → Nat → Value → World → Prop
  | _, 0, v, _ => v = .agg #[.slice ra zs.length zs.length]
  | _, 1, v, w => ∃ a1 a2 a3 a4 a5 a6, v = plV newV.ps a1 a2 a3 a4 a5 a6 ∧ Plr w 0 (plV newV.ps a1 a2 a3 a4 a5 a6) newV.ps
  | _, 2, v, _ => v = ncV (newC hm6) (.slice ma 6 mc)
  | _, 3, v, w => ∃ a1 a2 a3 a4 a5 a6, v = bdV ⟨ra, zs.length, a1, a2, a3, a4, a5, a6, none, 0, none, 0, ma, mc⟩ (newS zs) ∧ Plr w 0 (plV newV.ps a1 a2 a3 a4 a5 a6) newV.ps
  | _, _, _, _ => True
theorem bnR_grew {ra : Option Addr} {ma : Option Addr} {mc : Nat} {zs : List Int} : ∀ vs j v w w', Grew w w' → bnR ra ma mc zs vs j v w → bnR ra ma mc zs vs j v w'
  | _, 0, _, _, _, _, h => h
  | _, 1, _, _, _, g, ⟨b0, b1, b2, b3, b4, b5, e, h0⟩ => ⟨b0, b1, b2, b3, b4, b5, e, h0.grew g⟩
  | _, 2, _, _, _, _, h => h
  | _, 3, _, _, _, g, ⟨b0, b1, b2, b3, b4, b5, e, h0⟩ => ⟨b0, b1, b2, b3, b4, b5, e, h0.grew g⟩
  | _, _ + 4, _, _, _, _, _ => True.intro
theorem bnR_lt {ra : Option Addr} {ma : Option Addr} {mc : Nat} {zs : List Int} : ∀ vs j v w, ([] : List Nat).contains j = true → bnR ra ma mc zs vs j v w → ∀ g, leadsTo v = some g → g < w.heap.size
  | _, 0, _, _, hc, _ => by simp at hc
  | _, 1, _, _, hc, _ => by simp at hc
  | _, 2, _, _, hc, _ => by simp at hc
  | _, 3, _, _, hc, _ => by simp at hc
  | _, _ + 4, _, _, hc, _ => by simp at hc
theorem bnR_loc {ra : Option Addr} {ma : Option Addr} {mc : Nat} {zs : List Int} : ∀ (vs vs' : Nat → Value) j v w, (∀ k ∈ ([[], [], [], []] : List (List Nat)).getD j [], vs k = vs' k) → bnR ra ma mc zs vs j v w → bnR ra ma mc zs vs' j v w
  | _, _, 0, _, _, _, h => h
  | _, _, 1, _, _, _, h => h
  | _, _, 2, _, _, _, h => h
  | _, _, 3, _, _, _, h => h
  | _, _, _ + 4, _, _, _, _ => True.intro

set_option maxHeartbeats 4000000 in
theorem new_yes_B {zs : List Int} (hz : zs = List.replicate 4096 0) {v : Value} {w : World} (hb : Buf w v hm6) : Calls Tryz.prog 13 #[.int .i64 4096, v] w fun e w' => ∃ x', e = .returned (.tuple #[bdV x' (newS zs), .int .i64 0]) ∧ Hid (Bdr w' x' (newS zs)) ∧ Grew w w' := by
  have hl : zs.length = 4096 := by rw [hz, List.length_replicate]
  obtain ⟨a, k, ev, _, _⟩ := hb.shape
  have ev2 : v = .slice a 6 k := ev
  subst ev2
  clear ev
  have hRN : ∀ w, Calls Tryz.prog 26 #[.int .i64 4096] w fun e w' => ∃ g, e = .returned (.tuple #[.agg #[.slice (some ⟨g, 0, none⟩) zs.length zs.length], .int .i64 0]) ∧ Hid (Buf w' (.slice (some ⟨g, 0, none⟩) zs.length zs.length) zs) ∧ Grew w w' := fun w => (new_yes 4096 (by omega) (by omega) w).mono (by rintro e w' ⟨g, rfl, H, g1⟩; refine ⟨g, by rw [hl], Lib.hid ?_, g1⟩; rw [hl, hz]; exact H.buf (AreBytes.zeros 4096))
  have hNN : ∀ w0, Grew w w0 → Calls Tryz.prog 27 #[.slice a 6 k] w0 fun e w' => ∃ b i, e = .returned (.tuple #[ncV (newC hm6) (.slice b 6 i), .int .i64 0]) ∧ Hid (Buf w' (.slice b 6 i) hm6) ∧ Grew w0 w' := fun w0 g => New_yes (m := hm6) rfl (hb.grew g)
  have HRN := Lib.hid hRN
  have HNN := Lib.hid hNN
  clear hRN hNN hb hz
  generalize hzn : zs.length = zn at *
  have HZN := Lib.hid hzn
  clear hzn hl
  go_enter Tryz.func13, Tryz.ntmps13
  go_upto_region 1 with fail
  have kR : Blk (w.alloc (.cells zeroB 36)) w.heap.size zeroB 36 := Blk.new _ _ _ _ rfl
  have g0 : Grew w (w.alloc (.cells zeroB 36)) := (Grew.refl w).alloc _
  generalize (w.alloc (.cells zeroB 36)) = w0 at *
  have lR : w.heap.size ≤ w.heap.size := Nat.le_refl _
  generalize hZ : w.heap.size = R at *
  have HZ := Lib.hid hZ
  clear hZ
  have LR : Hid (w.heap.size ≤ R) := Lib.hid (by rw [HZ.out]; exact lR)
  go_wp2_with fail
  refine (HRN.out _).mono ?_
  rintro e w1 ⟨ga, rfl, HR, g1⟩
  replace kR := kR.grew g1
  replace g0 := g0.trans g1
  clear g1
  have lR1 := kR.lt
  go_upto_region 4 with fail
  have kM : Blk (w1.alloc (.cells #[.slice (some ⟨ga, 0, none⟩) zn zn] 24)) w1.heap.size #[.slice (some ⟨ga, 0, none⟩) zn zn] 24 := Blk.new _ _ _ _ rfl
  replace kR := kR.alloc (.cells #[.slice (some ⟨ga, 0, none⟩) zn zn] 24)
  replace HR := Lib.hid (HR.out.grew ((Grew.refl w1).alloc (.cells #[.slice (some ⟨ga, 0, none⟩) zn zn] 24)))
  replace g0 := g0.alloc (.cells #[.slice (some ⟨ga, 0, none⟩) zn zn] 24)
  have nMR : R ≠ w1.heap.size := by omega
  clear lR1
  generalize (w1.alloc (.cells #[.slice (some ⟨ga, 0, none⟩) zn zn] 24)) = w2 at *
  generalize w1.heap.size = M at *
  go_wp2_with fail
  refine (HNN.out _ g0).mono ?_
  rintro e w3 ⟨ma, mc, rfl, HM, g1⟩
  replace kR := kR.grew g1
  replace kM := kM.grew g1
  replace HR := Lib.hid (HR.out.grew g1)
  replace g0 := g0.trans g1
  clear g1
  have lR1 := kR.lt
  have lM1 := kM.lt
  have lS := g0.size
  go_upto_region 5 with (refine st_nc rfl (.tmp 8) (.tmp 21) rfl rfl (newC hm6) (Blk.new w3 zeroN 34 _ rfl) rfl (by rfl) (by rfl) ⟨_, _, _, rfl⟩ ?_; intro w4 kN oN)
  replace kR := (kR.alloc (.cells zeroN 34)).only oN (by omega)
  replace kM := (kM.alloc (.cells zeroN 34)).only oN (by omega)
  have kz := Blk.new w3 zeroN 34 _ rfl
  replace HR := Lib.hid ((HR.out.grew ((Grew.refl w3).alloc (.cells zeroN 34))).only oN kz (nb_nc (fun _ => 0) none 0 0))
  replace HM := Lib.hid ((HM.out.grew ((Grew.refl w3).alloc (.cells zeroN 34))).only oN kz (nb_nc (fun _ => 0) none 0 0))
  replace g0 : Grew w w4 := oN.grew (g0.alloc _) lS
  clear oN kz lR1 lM1 lS
  generalize w3.heap.size = N at *
  go_upto_region 7 with fail
  rw [← HZN.out] at kM HR
  rw [← HZN.out]
  generalize hra : (some ⟨ga, 0, none⟩ : Option Addr) = ra at *
  clear hra
  have HR' := HR
  have HR' := HR
  refine region_deps 4 [some 27, some 28, some 29, some 30] [[], [], [], []] [] (bnR ra ma mc zs) bnR_grew bnR_lt bnR_loc (Grew.refl w4) (by kernel_rfl) (by kernel_rfl) ?_ ?_
  · simp only [List.take_succ_cons, List.take_zero]
    refine GivesAll.cons (fun vs w1 g1 hd K hK => ?_) ?_
    · simp only [putsT, Nat.zero_add, Nat.reduceAdd, List.getD_cons_zero, List.getD_cons_succ, Act.put, List.setIfInBounds_toArray, List.set_cons_zero, List.set_cons_succ] at hK ⊢
      rw [if_pos (by rfl)]
      refine wp_load_row _ (.tmp 6) rfl M (by rfl) _ _ (0, 0) _ (kM.grew g1) Tryz.underlying24 rfl rmInfo ?_
      exact hK _ _ (Grew.refl _) rfl (fun h => by simp at h)
    refine GivesAll.cons (fun vs w1 g1 hd K hK => ?_) ?_
    · simp only [putsT, Nat.zero_add, Nat.reduceAdd, List.getD_cons_zero, List.getD_cons_succ, Act.put, List.setIfInBounds_toArray, List.set_cons_zero, List.set_cons_succ] at hK ⊢
      go_simp
      refine Calls.mono (new_t _) ?_
      rintro e w5 ⟨v', rfl, h5, g5⟩
      obtain ⟨c1, c2, c3, c4, c5, c6, rfl⟩ := h5.out.pl.shaped
      exact hK _ _ g5 ⟨c1, c2, c3, c4, c5, c6, rfl, h5.out.low (Nat.zero_le _)⟩ (fun h => by simp at h)
    refine GivesAll.cons (fun vs w1 g1 hd K hK => ?_) ?_
    · simp only [putsT, Nat.zero_add, Nat.reduceAdd, List.getD_cons_zero, List.getD_cons_succ, Act.put, List.setIfInBounds_toArray, List.set_cons_zero, List.set_cons_succ] at hK ⊢
      rw [if_pos (by rfl)]
      refine wp_load_row _ (.tmp 8) rfl N (by rfl) _ _ (0, 0) _ (kN.grew g1) Tryz.underlying34 rfl ncInfo ?_
      exact hK _ _ (Grew.refl _) rfl (fun h => by simp at h)
    refine GivesAll.cons (fun vs w1 g1 hd K hK => ?_) ?_
    · have e0 : vs 0 = .agg #[.slice ra zs.length zs.length] := hd 0 (by kernel_rfl)
      obtain ⟨a1_1, a2_1, a3_1, a4_1, a5_1, a6_1, e1, r1_0⟩ := hd 1 (by kernel_rfl)
      have e2 : vs 2 = ncV (newC hm6) (.slice ma 6 mc) := hd 2 (by kernel_rfl)
      simp only [putsT, Nat.zero_add, Nat.reduceAdd, List.getD_cons_zero, List.getD_cons_succ, Act.put, List.setIfInBounds_toArray, List.set_cons_zero, List.set_cons_succ, e0, e1, e2] at hK ⊢
      rw [if_pos (by rfl)]
      refine wp_build _ _ rfl (by kernel_rfl) ?_
      exact hK _ _ (Grew.refl _) ⟨a1_1, a2_1, a3_1, a4_1, a5_1, a6_1, by kernel_rfl, r1_0⟩ (fun h => by simp at h)
    exact GivesAll.nil
  intro vs wz gz hv hap
  have e0 : vs 0 = .agg #[.slice ra zs.length zs.length] := hv 0 (by decide)
  obtain ⟨a1_1, a2_1, a3_1, a4_1, a5_1, a6_1, e1, r1_0⟩ := hv 1 (by decide)
  have e2 : vs 2 = ncV (newC hm6) (.slice ma 6 mc) := hv 2 (by decide)
  obtain ⟨a1_3, a2_3, a3_3, a4_3, a5_3, a6_3, e3, r3_0⟩ := hv 3 (by decide)
  clear hv hap
  simp only [putsT, Nat.zero_add, Nat.reduceAdd, List.getD_cons_zero, List.getD_cons_succ, Act.put, List.setIfInBounds_toArray, List.set_cons_zero, List.set_cons_succ, List.drop_succ_cons, List.drop_zero, e0, e1, e2, e3]
  clear e0 e1 e2 e3

  have gE := g0.trans gz
  replace kR := kR.grew gz
  go_wp2_with (refine st_bd rfl (.tmp 4) (.tmp 30) rfl rfl ⟨ra, zs.length, a1_3, a2_3, a3_3, a4_3, a5_3, a6_3, none, 0, none, 0, ma, mc⟩ (newS zs) kR rfl (by rfl) (by rfl) ?_; intro w9 kR9 o9)
  exact bodyPost_ret (v := .tuple #[bdV ⟨ra, zs.length, a1_3, a2_3, a3_3, a4_3, a5_3, a6_3, none, 0, none, 0, ma, mc⟩ (newS zs), .int .i64 0]) (results_be (p := 4) (q := 5) Tryz.results13 _ _ R kR9 rfl) rfl ⟨_, rfl, Lib.hid ⟨(HR.out.grew gz).only o9 kR nb_zero, r3_0.only o9 kR (by decide), ⟨⟨_, _, rfl, Buf.nil _, Buf.nil _⟩, (⟨by decide, by decide⟩ : uaIntI 0), (⟨by decide, by decide⟩ : uaIntI 0)⟩, (HM.out.grew gz).only o9 kR nb_zero⟩, o9.grew gE LR.out⟩
set_option maxHeartbeats 2000000 in
theorem new_no_B (v : Value) (w : World) : Calls Tryz.prog 13 #[.int .i64 0, v] w fun e w' => e = .returned (.tuple #[bdV zX zS, .int .i64 2]) ∧ Grew w w' := by
  have hRN := Lib.hid (new_no 0 (by omega) (by omega) (.inl (by omega)))
  go_enter Tryz.func13, Tryz.ntmps13
  go_upto_region 1 with fail
  have kR : Blk (w.alloc (.cells zeroB 36)) w.heap.size zeroB 36 := Blk.new _ _ _ _ rfl
  have g0 : Grew w (w.alloc (.cells zeroB 36)) := (Grew.refl w).alloc _
  generalize (w.alloc (.cells zeroB 36)) = w0 at *
  have lR : w.heap.size ≤ w.heap.size := Nat.le_refl _
  generalize hZ : w.heap.size = R at *
  have HZ := Lib.hid hZ
  clear hZ
  have LR : Hid (w.heap.size ≤ R) := Lib.hid (by rw [HZ.out]; exact lR)
  go_wp2_with fail
  refine (hRN.out _).mono ?_
  rintro e w1 ⟨rfl, g1⟩
  replace kR := kR.grew g1
  replace g0 := g0.trans g1
  clear g1
  go_upto_region 3 with fail
  replace kR := kR.alloc (.cells #[.slice none 0 0] 24)
  replace g0 := g0.alloc (.cells #[.slice none 0 0] 24)
  generalize (w1.alloc (.cells #[.slice none 0 0] 24)) = w2 at *
  go_wp2_with (refine st_bd rfl (.tmp 4) (.tmp 16) rfl rfl zX zS kR rfl (by rfl) (by rfl) ?_; intro w9 kR9 o9)
  exact bodyPost_ret (v := .tuple #[bdV zX zS, .int .i64 2]) (results_be (p := 4) (q := 5) Tryz.results13 _ _ R kR9 rfl) rfl ⟨rfl, o9.grew g0 LR.out⟩

end Go.Proofs.YtgcfmijkggpemaaGreat
set_option maxRecDepth 4000
set_option linter.unusedVariables false
set_option linter.unusedSimpArgs false
namespace Go.Proofs.YtgcfmijkggpemaaGreat
open Go.RowKit

def hU : US := ⟨[], [65], 0, 0⟩
def hs1 (zs : List Int) : BS := { newS zs with u := hU }
def hs2 (zs : List Int) : BS := { hs1 zs with r := writeV zs 2147483648 8 4660 }
theorem newV_len : newV.ps.pr.length = 3 ∧ newV.ps.en.length = 2 ∧ newV.ps.th.length = 2 := by decide
theorem bok0 {zs : List Int} (h : zs.length = 4096) : BOk (newS zs) := ⟨by show zs.length ≤ _; omega, by show newV.ps.pr.length ≤ _; rw [newV_len.1]; omega, by show newV.ps.en.length ≤ _; rw [newV_len.2.1]; omega, by show newV.ps.th.length ≤ _; rw [newV_len.2.2]; omega, by show (0 : Nat) ≤ _; omega, by show (0 : Nat) ≤ _; omega, by show (6 : Nat) ≤ _; omega, ⟨by show (0 : Int) ≤ 0; omega, by show (0 : Int) < _; omega⟩, ⟨by show (0 : Int) ≤ 0; omega, by show (0 : Int) < _; omega⟩⟩
theorem bok1 {zs : List Int} (h : zs.length = 4096) : BOk (hs1 zs) := by
  have k := bok0 h
  exact ⟨k.r, k.pr, k.en, k.th, by show (0 : Nat) ≤ _; omega, by show (1 : Nat) ≤ _; omega, k.m, k.T, k.C⟩
theorem bok2 {zs : List Int} (h : zs.length = 4096) : BOk (hs2 zs) := by
  have k := bok1 h
  exact ⟨by show (writeV zs 2147483648 8 4660).length ≤ _; rw [writeV_length]; omega, k.pr, k.en, k.th, k.i, k.o, k.m, k.T, k.C⟩
theorem hset (zs : List Int) : setB (hs2 zs) = hs2 zs := by
  have e : setS newV.ps (srcV (hs2 zs)) = newV.ps := by kernel_rfl
  show ({ hs2 zs with p := setS newV.ps (srcV (hs2 zs)) } : BS) = hs2 zs
  rw [e]
  rfl
theorem hlines (zs : List Int) : linesV (hs2 zs) = 128 := by kernel_rfl
theorem hread {zs : List Int} (h : zs.length = 4096) : readV (writeV zs 2147483648 8 4660) 2147483648 2 = 4660 := by
  have e1 : writeV zs 2147483648 8 4660 = lay zs 0 (putL 4660 8 false) := by
    have := write8 (xs := zs) (lo := 0) (by omega) 4660
    simpa using this
  have e2 : bytesV (lay zs 0 (putL 4660 8 false)) 2147483648 2 = cutL (lay zs 0 (putL 4660 8 false)) 0 2 := by
    have := bytesV_in (xs := lay zs 0 (putL 4660 8 false)) (lo := 0) (k := 2) (by rw [lay_length (by rw [putL_length]; omega)]; omega)
    simpa using this
  have e3 : cutL (lay zs 0 (putL 4660 8 false)) 0 2 = [52, 18] := by
    have : putL 4660 8 false = [52, 18, 0, 0, 0, 0, 0, 0] := by decide
    rw [this]
    simp [lay, cutL]
  have e4 : sizeV 2 = true := by decide
  rw [e1]
  unfold readV
  rw [e4, e2, e3]
  decide
theorem hin {zs : List Int} (h : zs.length = 4096) : (sizeV 8 && insideV zs.length 2147483648 8) = true ∧ (sizeV 2 && insideV (writeV zs 2147483648 8 4660).length 2147483648 2) = true ∧ (sizeV 1 && insideV (writeV zs 2147483648 8 4660).length 268435464 1) = false := by
  rw [writeV_length, h]
  decide
theorem hd1 {zs : List Int} (h : zs.length = 4096) {x : BX} {w : World} (hb : Bd w x (newS zs)) : Calls Tryz.prog 8 #[bdV x (newS zs), .int .u64 268435456, .int .i64 1, .int .u64 65] w fun e w' => ∃ x', e = .returned (.tuple #[bdV x' (hs1 zs), .bool true]) ∧ Hid (Bdr w' x' (hs1 zs)) ∧ Grew w w' := by
  have e : uaStS (newS zs).u (268435456 - 268435456) 1 65 = hU := by kernel_rfl
  have := store_uart (n := 1) (y := 65) (bok0 h) hb (x := 268435456) (by decide) (by decide) (by decide) (by decide) (by decide) (by decide) (by decide)
  rw [e] at this
  exact this
theorem hd2 {zs : List Int} (h : zs.length = 4096) {x : BX} {w : World} (hb : Bd w x (hs1 zs)) : Calls Tryz.prog 8 #[bdV x (hs1 zs), .int .u64 2147483648, .int .i64 8, .int .u64 4660] w fun e w' => ∃ x', e = .returned (.tuple #[bdV x' (hs2 zs), .bool true]) ∧ Hid (Bdr w' x' (hs2 zs)) ∧ Grew w w' := by
  have e : (sizeV 8 && insideV (hs1 zs).r.length 2147483648 8) = true := (hin h).1
  have := store_ram (n := 8) (y := 4660) (bok1 h) hb (x := 2147483648) (by decide) (by decide) (by decide) (by decide) (by decide) (by decide) (by decide) (by decide)
  rw [e] at this
  exact this
theorem hd3 {zs : List Int} (h : zs.length = 4096) {x : BX} {w : World} (hb : Bd w x (hs2 zs)) : Calls Tryz.prog 11 #[bdV x (hs2 zs), .int .u64 2147483648, .int .i64 2] w fun e w' => ∃ x', e = .returned (.tuple #[.int .u64 4660, bdV x' (hs2 zs), .bool true]) ∧ Hid (Bdr w' x' (hs2 zs)) ∧ Grew w w' := by
  have e : (sizeV 2 && insideV (hs2 zs).r.length 2147483648 2) = true := (hin h).2.1
  have e2 : readV (hs2 zs).r 2147483648 2 = 4660 := hread h
  have := loadRam_c (n := 2) (bok2 h) hb (x := 2147483648) (by decide) (by decide) (by decide) (by decide) (by decide) (by decide) (by decide) (by decide)
  rw [e, e2] at this
  exact this
theorem hd4 {zs : List Int} (h : zs.length = 4096) {x : BX} {w : World} (hb : Bd w x (hs2 zs)) : Calls Tryz.prog 8 #[bdV x (hs2 zs), .int .u64 268435464, .int .i64 1, .int .u64 0] w fun e w' => ∃ x' s', e = .returned (.tuple #[bdV x' s', .bool false]) ∧ Grew w w' := by
  have e : (sizeV 1 && insideV (hs2 zs).r.length 268435464 1) = false := (hin h).2.2
  have := store_ram (n := 1) (y := 0) (bok2 h) hb (x := 268435464) (by decide) (by decide) (by decide) (by decide) (by decide) (by decide) (by decide) (by decide)
  rw [e] at this
  refine this.mono ?_
  rintro e w' ⟨x', rfl, H, g⟩
  exact ⟨x', _, rfl, g⟩
theorem hd5 {zs : List Int} (h : zs.length = 4096) {x : BX} {w : World} (hb : Bd w x (hs2 zs)) : Calls Tryz.prog 12 #[bdV x (hs2 zs)] w fun e w' => ∃ x', e = .returned (.tuple #[bdV x' (hs2 zs), .int .u64 128]) ∧ Hid (Bdr w' x' (hs2 zs)) ∧ Grew w w' := by
  have := lines_B (bok2 h) (by rw [hset]; exact bok2 h) hb
  rw [hset, hlines] at this
  exact this
theorem uaOut {w : World} {x : BX} {zs : List Int} (h : Bdr w x (hs2 zs)) : Buf w (.slice x.oa 1 x.oc) [65] := by
  obtain ⟨u1, u2, e, h1, h2⟩ := h.u.shape
  simp only [uaP, Value.agg.injEq, Array.mk.injEq, List.cons.injEq, and_true] at e
  obtain ⟨rfl, rfl, _⟩ := e
  exact h2
theorem lit65 (w : World) (g : Nat) (hg : g = w.heap.size) : Buf (w.alloc (.cells #[.int .u8 65] 5)) (.slice (some ⟨g, 0, none⟩) 1 1) [65] :=
  (Row.lit w w.heap.size (Nat.le_refl _) #[.int .u8 65] [65] rfl (by decide) g hg 1 rfl).buf (fun x hx => by simp at hx; omega)

set_option maxHeartbeats 4000000 in
theorem heads_c {W w : World} (gW : Grew W w) : Calls Tryz.prog 7 #[] w fun e w' => e = .returned (.bool true) ∧ Grew W w' := by
  obtain ⟨zs, hz⟩ : ∃ zs : List Int, zs = List.replicate 4096 0 := ⟨_, rfl⟩
  have hl : zs.length = 4096 := by rw [hz, List.length_replicate]
  have HN := Lib.hid (fun (v : Value) (w : World) (h : Buf w v hm6) => new_yes_B hz h)
  have F1 := Lib.hid (fun (x : BX) (w : World) (h : Bd w x (newS zs)) => hd1 hl h)
  have F2 := Lib.hid (fun (x : BX) (w : World) (h : Bd w x (hs1 zs)) => hd2 hl h)
  have F3 := Lib.hid (fun (x : BX) (w : World) (h : Bd w x (hs2 zs)) => hd3 hl h)
  have F4 := Lib.hid (fun (x : BX) (w : World) (h : Bd w x (hs2 zs)) => hd4 hl h)
  have F5 := Lib.hid (fun (x : BX) (w : World) (h : Bd w x (hs2 zs)) => hd5 hl h)
  have GW := Lib.hid gW
  clear hz hl gW
  go_enter Tryz.func7, Tryz.ntmps7
  go_wp2_with (refine wpList_make_b rfl (.const (.int .i64 6)) (.const (.int .i64 6)) rfl (Grew.refl _) .i64 .i64 _ _ 6 rfl rfl rfl rfl (by omega) ?_; intro w1 HM g1)
  refine (HN.out _ _ (HM.out.buf (AreBytes.zeros 6))).mono ?_
  rintro e w2 ⟨x0, rfl, H0, g2⟩
  have g0 := g1.trans g2
  clear HM g1 g2
  have lS := g0.size
  go_upto_region 2 with (refine st_bd rfl (.tmp 1) (.tmp 17) rfl rfl x0 (newS zs) (Blk.new w2 zeroB 36 _ rfl) rfl (by rfl) (by rfl) ?_; intro w3 kA oo)
  have kz : Blk (w2.alloc (.cells zeroB 36)) w2.heap.size zeroB 36 := Blk.new _ _ _ _ rfl
  replace g0 : Grew w w3 := oo.grew (g0.alloc _) lS
  have LA : Hid (w.heap.size ≤ w2.heap.size) := Lib.hid lS
  replace H0 := Lib.hid ((H0.out.grew ((Grew.refl w2).alloc _)).only oo kz nb_zero (by decide))
  clear oo kz lS
  generalize w2.heap.size = A at *
  go_wp2_with (refine wpList_make_b rfl (.const (.int .i64 6)) (.const (.int .i64 6)) rfl (Grew.refl _) .i64 .i64 _ _ 6 rfl rfl rfl rfl (by omega) ?_; intro w4 HM g4)
  refine (new_no_B _ _).mono ?_
  rintro e w5 ⟨rfl, g5⟩
  have g45 := g4.trans g5
  replace kA := kA.grew g45
  replace g0 := g0.trans g45
  replace H0 := Lib.hid (H0.out.grew g45)
  clear HM g4 g5 g45
  have lS := g0.size
  have lA := kA.lt
  go_upto_region 3 with (refine st_bd rfl (.tmp 3) (.tmp 22) rfl rfl zX zS (Blk.new w5 zeroB 36 _ rfl) rfl (by rfl) (by rfl) ?_; intro w6 kB oo)
  have kz : Blk (w5.alloc (.cells zeroB 36)) w5.heap.size zeroB 36 := Blk.new _ _ _ _ rfl
  replace kA := (kA.alloc (.cells zeroB 36)).only oo (by omega)
  have nAB : A ≠ w5.heap.size := by omega
  clear lA
  replace g0 : Grew w w6 := oo.grew (g0.alloc _) lS
  have LB : Hid (w.heap.size ≤ w5.heap.size) := Lib.hid lS
  replace H0 := Lib.hid ((H0.out.grew ((Grew.refl w5).alloc _)).only oo kz nb_zero (by decide))
  clear kB nAB LB
  clear oo kz lS
  generalize w5.heap.size = B at *
  go_wp2_with (refine ld_bd rfl (.tmp 1) rfl _ rfl kA (by rfl) ?_)
  refine (F1.out _ _ H0.out.bd).mono ?_
  rintro e w7 ⟨x1, rfl, H1, g1⟩
  replace kA := kA.grew g1
  replace g0 := g0.trans g1
  clear g1 H0
  go_upto_region 4 with (refine st_bd rfl (.tmp 1) (.tmp 27) rfl rfl x1 (hs1 zs) kA rfl (by rfl) (by rfl) ?_; intro w8 kA2 oo)
  replace H1 := Lib.hid (H1.out.only oo kA (nb_bd _ _) (by decide))
  replace g0 := oo.grew g0 LA.out
  clear oo kA
  have kA := kA2
  clear kA2
  go_wp2_with (refine ld_bd rfl (.tmp 1) rfl _ rfl kA (by rfl) ?_)
  refine (F2.out _ _ H1.out.bd).mono ?_
  rintro e w9 ⟨x2, rfl, H2, g1⟩
  replace kA := kA.grew g1
  replace g0 := g0.trans g1
  clear g1 H1
  go_upto_region 5 with (refine st_bd rfl (.tmp 1) (.tmp 32) rfl rfl x2 (hs2 zs) kA rfl (by rfl) (by rfl) ?_; intro w10 kA2 oo)
  replace H2 := Lib.hid (H2.out.only oo kA (nb_bd _ _) (by decide))
  replace g0 := oo.grew g0 LA.out
  clear oo kA
  have kA := kA2
  clear kA2
  go_wp2_with (refine ld_bd rfl (.tmp 1) rfl _ rfl kA (by rfl) ?_)
  refine (F3.out _ _ H2.out.bd).mono ?_
  rintro e w11 ⟨x3, rfl, H3, g1⟩
  replace g0 := g0.trans g1
  replace H2 := Lib.hid (H2.out.grew g1)
  replace kA := kA.grew g1
  clear g1
  clear H3
  have lS := g0.size
  have lA := kA.lt
  go_upto_region 6 with (refine st_bd rfl (.tmp 8) (.tmp 38) rfl rfl x3 (hs2 zs) (Blk.new w11 zeroB 36 _ rfl) rfl (by rfl) (by rfl) ?_; intro w12 kC oo)
  have kz : Blk (w11.alloc (.cells zeroB 36)) w11.heap.size zeroB 36 := Blk.new _ _ _ _ rfl
  replace kA := (kA.alloc (.cells zeroB 36)).only oo (by omega)
  have nAC : A ≠ w11.heap.size := by omega
  clear lA
  replace g0 : Grew w w12 := oo.grew (g0.alloc _) lS
  have LC : Hid (w.heap.size ≤ w11.heap.size) := Lib.hid lS
  replace H2 := Lib.hid ((H2.out.grew ((Grew.refl w11).alloc _)).only oo kz nb_zero (by decide))
  clear kC nAC LC
  clear oo kz lS
  generalize w11.heap.size = C at *
  go_wp2_with (refine ld_bd rfl (.tmp 1) rfl _ rfl kA (by rfl) ?_)
  refine (F4.out _ _ H2.out.bd).mono ?_
  rintro e w13 ⟨x4, s4, rfl, g1⟩
  replace g0 := g0.trans g1
  replace H2 := Lib.hid (H2.out.grew g1)
  replace kA := kA.grew g1
  clear g1
  have lS := g0.size
  have lA := kA.lt
  go_upto_region 7 with (refine st_bd rfl (.tmp 10) (.tmp 43) rfl rfl x4 s4 (Blk.new w13 zeroB 36 _ rfl) rfl (by rfl) (by rfl) ?_; intro w14 kD oo)
  have kz : Blk (w13.alloc (.cells zeroB 36)) w13.heap.size zeroB 36 := Blk.new _ _ _ _ rfl
  replace kA := (kA.alloc (.cells zeroB 36)).only oo (by omega)
  have nAD : A ≠ w13.heap.size := by omega
  clear lA
  replace g0 : Grew w w14 := oo.grew (g0.alloc _) lS
  have LD : Hid (w.heap.size ≤ w13.heap.size) := Lib.hid lS
  replace H2 := Lib.hid ((H2.out.grew ((Grew.refl w13).alloc _)).only oo kz nb_zero (by decide))
  clear kD nAD LD
  clear oo kz lS
  generalize w13.heap.size = D at *
  go_wp2_with (refine ld_bd rfl (.tmp 1) rfl _ rfl kA (by rfl) ?_)
  refine (F5.out _ _ H2.out.bd).mono ?_
  rintro e w15 ⟨x5, rfl, H5, g1⟩
  replace g0 := g0.trans g1
  replace H2 := Lib.hid (H2.out.grew g1)
  replace kA := kA.grew g1
  clear g1
  have lS := g0.size
  have lA := kA.lt
  go_upto_region 8 with (refine st_bd rfl (.tmp 12) (.tmp 48) rfl rfl x5 (hs2 zs) (Blk.new w15 zeroB 36 _ rfl) rfl (by rfl) (by rfl) ?_; intro w16 kE oo)
  have kz : Blk (w15.alloc (.cells zeroB 36)) w15.heap.size zeroB 36 := Blk.new _ _ _ _ rfl
  replace kA := (kA.alloc (.cells zeroB 36)).only oo (by omega)
  have nAE : A ≠ w15.heap.size := by omega
  clear lA
  replace g0 : Grew w w16 := oo.grew (g0.alloc _) lS
  have LE : Hid (w.heap.size ≤ w15.heap.size) := Lib.hid lS
  replace H2 := Lib.hid ((H2.out.grew ((Grew.refl w15).alloc _)).only oo kz nb_zero (by decide))
  replace H5 := Lib.hid ((H5.out.grew ((Grew.refl w15).alloc _)).only oo kz nb_zero (by decide))
  clear oo kz lS
  generalize w15.heap.size = E at *
  have yO : w16.cell? ⟨A, 10, none⟩ = some (.slice x2.oa 1 x2.oc) := kA.cell 10
  have HO : Hid (Buf w16 (.slice x2.oa 1 x2.oc) [65]) := Lib.hid (uaOut H2.out)
  go_wp2_with fail
  refine (same01_b _ (HO.out.grew ((Grew.refl w16).alloc _)) (lit65 w16 _ rfl) rfl).mono ?_
  rintro e w17 ⟨rfl, hw⟩
  obtain rfl := hw.symm
  clear hw
  replace kA := kA.alloc (.cells #[.int .u8 65] 5)
  replace kE := kE.alloc (.cells #[.int .u8 65] 5)
  have g1 : Grew w (w16.alloc (.cells #[.int .u8 65] 5)) := g0.alloc _
  replace H2 := Lib.hid (H2.out.grew ((Grew.refl w16).alloc (.cells #[.int .u8 65] 5)))
  replace H5 := Lib.hid (H5.out.grew ((Grew.refl w16).alloc (.cells #[.int .u8 65] 5)))
  clear yO HO g0
  generalize w16.alloc (.cells #[.int .u8 65] 5) = w18 at *
  go_wp2_with (first | refine lw_bd (by rfl) (.tmp 1) rfl _ rfl kA (by rfl) ?_ | refine lw_bd (by rfl) (.tmp 12) rfl _ rfl kE (by rfl) ?_)
  refine (Same_c H2.out.bd H5.out.bd).mono ?_
  rintro e w19 ⟨rfl, g2⟩
  go_wp2_with fail
  go_ret
  exact ⟨rfl, GW.out.trans (g1.trans g2)⟩
end Go.Proofs.YtgcfmijkggpemaaGreat
set_option maxRecDepth 4000
set_option linter.unusedVariables false
set_option linter.unusedSimpArgs false
namespace Go.Proofs.YtgcfmijkggpemaaGreat
open Go.RowKit

section
open Go.ChangeShapes Go.WideShapes Go.Deep
variable {H : Type} {enc : TypeId × Value → H}

theorem buf_of_trod_w {P : Program} {W : World} {base : Nat} {spare : Nat → Bool} {held : Bool} {t e : TypeId} {v : Value} {fuel : Nat} {x : DataW H × List MemPlace} (ht : P.underlying t = some (.slice e)) (he : P.underlying e = some (.int .u8)) (hc : P.cellsOf e = 1)
    (hd : DataW.trod enc P W base spare held fuel t [v] = some x) : ∃ xs, Buf W v xs ∧ ∀ n, (∀ m ∈ x.1.weights P t, m ≤ n) → xs.length * P.bytesOf e ≤ n := by
  rcases open_ints ht he hc hd with ⟨h1, _⟩ | ⟨a', len', cap', zs, h1, _, h3, h4, h5, hx, h7, h8⟩
  · obtain rfl : v = .slice none 0 0 := by simpa using h1
    exact ⟨[], Buf.nil W, fun n _ => by simp⟩
  · obtain rfl : v = .slice (some a') len' cap' := by simpa using h1
    have hlz : len' ≤ zs.length := by rw [h5]; split <;> omega
    have hb : ∀ x ∈ zs, 0 ≤ x ∧ x < 256 := fun x hx => by have := bounds_u8 (h8 x hx); omega
    have hl : (zs.take len').length = len' := by simp; omega
    refine ⟨zs.take len', ⟨⟨some a', cap', by rw [hl], by omega, fun hne => ?_⟩, fun x hx => hb x (List.mem_of_mem_take hx), by omega⟩, fun n hn => ?_⟩
    · have h0 : 0 < len' := by rw [← hl]; exact List.length_pos_iff.2 hne
      obtain ⟨b, off, rfl, hc2⟩ := ints_at h7 (by omega)
      refine ⟨b, off, rfl, fun i hi => ?_⟩
      rw [hl] at hi
      rw [hc2 i (by omega)]
      simp only [List.getD_eq_getElem?_getD]
      rw [List.getElem?_take_of_lt (by omega)]
    · have h9 := hn (((lits (H := H) .u8 (zs.take len')).length + (lits (H := H) .u8 (zs.drop len')).length) * P.bytesOf e) (by rw [hx]; simp [DataW.weights, ht])
      have hlit : (lits (H := H) .u8 (zs.take len')).length = len' := by simp [lits]; omega
      rw [hlit] at h9
      rw [hl]
      exact Nat.le_trans (Nat.mul_le_mul_right _ (Nat.le_add_right _ _)) h9

variable {w : World} {base : Nat} {spare : Nat → Bool} {held : Bool}
theorem in_ram {l : List Value} {fuel : Nat} {D : DataW H} {p : List MemPlace} (hsz : l.length = 1) (hf : DataW.trod enc Tryz.prog w base spare held fuel 24 l = some (D, p)) :
    ∃ (a : Option Addr) (n c : Nat) (xs : List Int), Value.agg ⟨l⟩ = .agg #[.slice a n c] ∧ Buf w (.slice a n c) xs := by
  have hs := Tryz.underlying24
  obtain ⟨xs, n, _, _, _, hl, hg⟩ := DataW.trod_struct hs hf
  have k0 : Tryz.prog.cellsOf 22 = 1 := by kernel_rfl
  match l, hsz, xs, hl with
  | [c0], _, [y0], _ =>
    have g0 : DataW.trod enc Tryz.prog w base spare held n 22 [c0] = some y0 := by
      have := hg 0 _ rfl
      simpa [Value.cells, k0] using this
    obtain ⟨xs, hb⟩ := buf_of_trod Tryz.underlying22 Tryz.underlying5 (by kernel_rfl) g0
    obtain ⟨a, c, rfl, _, _⟩ := hb.shape
    exact ⟨a, _, c, xs, rfl, hb⟩

theorem in_clint {l : List Value} {fuel : Nat} {D : DataW H} {p : List MemPlace} (hsz : l.length = 3) (hf : DataW.trod enc Tryz.prog w base spare held fuel 27 l = some (D, p)) :
    ∃ (T C : Int) (S : Bool), Value.agg ⟨l⟩ = .agg #[.int .u64 T, .int .u64 C, .bool S] ∧ (0 ≤ T ∧ T < 18446744073709551616) ∧ (0 ≤ C ∧ C < 18446744073709551616) := by
  have hs := Tryz.underlying27
  obtain ⟨xs, n, _, _, _, hl, hg⟩ := DataW.trod_struct hs hf
  have k0 : Tryz.prog.cellsOf 25 = 1 := by kernel_rfl
  have k1 : Tryz.prog.cellsOf 4 = 1 := by kernel_rfl
  match l, hsz, xs, hl with
  | [c0, c1, c2], _, [y0, y1, y2], _ =>
    have g0 : DataW.trod enc Tryz.prog w base spare held n 25 [c0] = some y0 := by
      have := hg 0 _ rfl
      simpa [Value.cells, k0, k1] using this
    have g1 : DataW.trod enc Tryz.prog w base spare held n 25 [c1] = some y1 := by
      have := hg 1 _ rfl
      simpa [Value.cells, k0, k1] using this
    have g2 : DataW.trod enc Tryz.prog w base spare held n 4 [c2] = some y2 := by
      have := hg 2 _ rfl
      simpa [Value.cells, k0, k1] using this
    obtain ⟨T, e0, _, w0⟩ := DataW.trod_int Tryz.underlying25 g0
    obtain ⟨C, e1, _, w1⟩ := DataW.trod_int Tryz.underlying25 g1
    obtain ⟨S, e2, _⟩ := DataW.trod_bool Tryz.underlying4 g2
    obtain rfl : c0 = _ := by simpa using e0
    obtain rfl : c1 = _ := by simpa using e1
    obtain rfl : c2 = _ := by simpa using e2
    exact ⟨T, C, S, rfl, wf_u64 w0, wf_u64 w1⟩

theorem in_plic {l : List Value} {fuel : Nat} {D : DataW H} {p : List MemPlace} (hsz : l.length = 5) (hf : DataW.trod enc Tryz.prog w base spare held fuel 30 l = some (D, p)) :
    ∃ (s : PS) (a1 : Option Addr) (c1 : Nat) (a2 : Option Addr) (c2 : Nat) (a3 : Option Addr) (c3 : Nat), Value.agg ⟨l⟩ = plV s a1 c1 a2 c2 a3 c3 ∧ Pl w (plV s a1 c1 a2 c2 a3 c3) s ∧ ((∀ m ∈ D.weights Tryz.prog 30, m ≤ reachBytes) → s.Fits) := by
  have hs := Tryz.underlying30
  obtain ⟨xs, n, _, hx, _, hl, hg⟩ := DataW.trod_struct hs hf
  have k0 : Tryz.prog.cellsOf 28 = 1 := by kernel_rfl
  have k1 : Tryz.prog.cellsOf 3 = 1 := by kernel_rfl
  have kb : Tryz.prog.bytesOf 3 = 8 := by kernel_rfl
  match l, hsz, xs, hl with
  | [c0, c1, c2, c3, c4], _, [y0, y1, y2, y3, y4], _ =>
    have g0 : DataW.trod enc Tryz.prog w base spare held n 28 [c0] = some y0 := by
      have := hg 0 _ rfl
      simpa [Value.cells, k0, k1] using this
    have g1 : DataW.trod enc Tryz.prog w base spare held n 3 [c1] = some y1 := by
      have := hg 1 _ rfl
      simpa [Value.cells, k0, k1] using this
    have g2 : DataW.trod enc Tryz.prog w base spare held n 3 [c2] = some y2 := by
      have := hg 2 _ rfl
      simpa [Value.cells, k0, k1] using this
    have g3 : DataW.trod enc Tryz.prog w base spare held n 28 [c3] = some y3 := by
      have := hg 3 _ rfl
      simpa [Value.cells, k0, k1] using this
    have g4 : DataW.trod enc Tryz.prog w base spare held n 28 [c4] = some y4 := by
      have := hg 4 _ rfl
      simpa [Value.cells, k0, k1] using this
    obtain ⟨x0, b0', w0⟩ := Ints.buf_of_trod_w Tryz.underlying28 Tryz.underlying3 (by kernel_rfl) g0
    obtain ⟨N, e1, _, wN⟩ := DataW.trod_int Tryz.underlying3 g1
    obtain ⟨K, e2, _, wK⟩ := DataW.trod_int Tryz.underlying3 g2
    obtain ⟨x3, b3, w3⟩ := Ints.buf_of_trod_w Tryz.underlying28 Tryz.underlying3 (by kernel_rfl) g3
    obtain ⟨x4, b4, w4⟩ := Ints.buf_of_trod_w Tryz.underlying28 Tryz.underlying3 (by kernel_rfl) g4
    obtain rfl : c1 = _ := by simpa using e1
    obtain rfl : c2 = _ := by simpa using e2
    obtain ⟨a0, q0, rfl, _, _⟩ := b0'.shape
    obtain ⟨a3, q3, rfl, _, _⟩ := b3.shape
    obtain ⟨a4, q4, rfl, _, _⟩ := b4.shape
    refine ⟨⟨x0, N, K, x3, x4⟩, a0, q0, a3, q3, a4, q4, rfl, ⟨⟨_, _, _, rfl, b0', b3, b4⟩, wf_i64 wN, wf_i64 wK⟩, fun hw => ?_⟩
    have hD : D = .agg [y0.1, y1.1, y2.1, y3.1, y4.1] := by have := congrArg Prod.fst hx; simpa using this
    have hin : ∀ (j : Nat) (t : TypeId) (d : DataW H), [28, 3, 3, 28, 28][j]? = some t → [y0.1, y1.1, y2.1, y3.1, y4.1][j]? = some d → ∀ m ∈ d.weights Tryz.prog t, m ≤ reachBytes := fun j t d h1 h2 m hm => by
      refine hw m ?_
      rw [hD]
      simp only [DataW.weights, hs]
      exact DataW.weights_mem_each h1 h2 m hm
    have r0 := w0 reachBytes (hin 0 _ _ rfl rfl)
    have r3 := w3 reachBytes (hin 3 _ _ rfl rfl)
    have r4 := w4 reachBytes (hin 4 _ _ rfl rfl)
    rw [kb] at r0 r3 r4
    unfold reachBytes at r0 r3 r4
    exact ⟨by show x0.length ≤ _; omega, by show x3.length ≤ _; omega, by show x4.length ≤ _; omega⟩

theorem in_uart {l : List Value} {fuel : Nat} {D : DataW H} {p : List MemPlace} (hsz : l.length = 4) (hf : DataW.trod enc Tryz.prog w base spare held fuel 32 l = some (D, p)) :
    ∃ (s : US) (a1 : Option Addr) (c1 : Nat) (a2 : Option Addr) (c2 : Nat), Value.agg ⟨l⟩ = uaV s a1 c1 a2 c2 ∧ Ua w (uaV s a1 c1 a2 c2) s := by
  have hs := Tryz.underlying32
  obtain ⟨xs, n, _, hx, _, hl, hg⟩ := DataW.trod_struct hs hf
  have k0 : Tryz.prog.cellsOf 22 = 1 := by kernel_rfl
  have k1 : Tryz.prog.cellsOf 3 = 1 := by kernel_rfl
  match l, hsz, xs, hl with
  | [c0, c1, c2, c3], _, [y0, y1, y2, y3], _ =>
    have g0 : DataW.trod enc Tryz.prog w base spare held n 22 [c0] = some y0 := by
      have := hg 0 _ rfl
      simpa [Value.cells, k0, k1] using this
    have g1 : DataW.trod enc Tryz.prog w base spare held n 22 [c1] = some y1 := by
      have := hg 1 _ rfl
      simpa [Value.cells, k0, k1] using this
    have g2 : DataW.trod enc Tryz.prog w base spare held n 3 [c2] = some y2 := by
      have := hg 2 _ rfl
      simpa [Value.cells, k0, k1] using this
    have g3 : DataW.trod enc Tryz.prog w base spare held n 3 [c3] = some y3 := by
      have := hg 3 _ rfl
      simpa [Value.cells, k0, k1] using this
    obtain ⟨x0, b0'⟩ := buf_of_trod Tryz.underlying22 Tryz.underlying5 (by kernel_rfl) g0
    obtain ⟨x1, b1'⟩ := buf_of_trod Tryz.underlying22 Tryz.underlying5 (by kernel_rfl) g1
    obtain ⟨N, e2, _, wN⟩ := DataW.trod_int Tryz.underlying3 g2
    obtain ⟨K, e3, _, wK⟩ := DataW.trod_int Tryz.underlying3 g3
    obtain rfl : c2 = _ := by simpa using e2
    obtain rfl : c3 = _ := by simpa using e3
    obtain ⟨a0, q0, rfl, _, _⟩ := b0'.shape
    obtain ⟨a1, q1, rfl, _, _⟩ := b1'.shape
    exact ⟨⟨x0, x1, N, K⟩, a0, q0, a1, q1, rfl, ⟨⟨_, _, rfl, b0', b1'⟩, wf_i64 wN, wf_i64 wK⟩⟩

set_option maxHeartbeats 2000000 in
theorem in_nic {l : List Value} {fuel : Nat} {D : DataW H} {p : List MemPlace} (hsz : l.length = 14) (hf : DataW.trod enc Tryz.prog w base spare held fuel 34 l = some (D, p)) :
    ∃ (c : Nat → Int) (m : List Int) (a : Option Addr) (k : Nat), Value.agg ⟨l⟩ = ncV c (.slice a m.length k) ∧ Buf w (.slice a m.length k) m ∧ MacOf c m ∧ ((∀ m ∈ D.weights Tryz.prog 34, m ≤ reachBytes) → m.length ≤ 140737488355328) := by
  have hs := Tryz.underlying34
  obtain ⟨xs, n, _, hx, _, hl, hg⟩ := DataW.trod_struct hs hf
  have k0 : Tryz.prog.cellsOf 22 = 1 := by kernel_rfl
  have k1 : Tryz.prog.cellsOf 3 = 1 := by kernel_rfl
  have k2 : Tryz.prog.cellsOf 25 = 1 := by kernel_rfl
  have kb : Tryz.prog.bytesOf 5 = 1 := by kernel_rfl
  match l, hsz, xs, hl with
  | [c0, c1, c2, c3, c4, c5, c6, c7, c8, c9, c10, c11, c12, c13], _, [y0, y1, y2, y3, y4, y5, y6, y7, y8, y9, y10, y11, y12, y13], _ =>
    have g0 : DataW.trod enc Tryz.prog w base spare held n 3 [c0] = some y0 := by
      have := hg 0 _ rfl
      simpa [Value.cells, k0, k1, k2] using this
    have g1 : DataW.trod enc Tryz.prog w base spare held n 3 [c1] = some y1 := by
      have := hg 1 _ rfl
      simpa [Value.cells, k0, k1, k2] using this
    have g2 : DataW.trod enc Tryz.prog w base spare held n 3 [c2] = some y2 := by
      have := hg 2 _ rfl
      simpa [Value.cells, k0, k1, k2] using this
    have g3 : DataW.trod enc Tryz.prog w base spare held n 25 [c3] = some y3 := by
      have := hg 3 _ rfl
      simpa [Value.cells, k0, k1, k2] using this
    have g4 : DataW.trod enc Tryz.prog w base spare held n 3 [c4] = some y4 := by
      have := hg 4 _ rfl
      simpa [Value.cells, k0, k1, k2] using this
    have g5 : DataW.trod enc Tryz.prog w base spare held n 3 [c5] = some y5 := by
      have := hg 5 _ rfl
      simpa [Value.cells, k0, k1, k2] using this
    have g6 : DataW.trod enc Tryz.prog w base spare held n 3 [c6] = some y6 := by
      have := hg 6 _ rfl
      simpa [Value.cells, k0, k1, k2] using this
    have g7 : DataW.trod enc Tryz.prog w base spare held n 25 [c7] = some y7 := by
      have := hg 7 _ rfl
      simpa [Value.cells, k0, k1, k2] using this
    have g8 : DataW.trod enc Tryz.prog w base spare held n 3 [c8] = some y8 := by
      have := hg 8 _ rfl
      simpa [Value.cells, k0, k1, k2] using this
    have g9 : DataW.trod enc Tryz.prog w base spare held n 3 [c9] = some y9 := by
      have := hg 9 _ rfl
      simpa [Value.cells, k0, k1, k2] using this
    have g10 : DataW.trod enc Tryz.prog w base spare held n 3 [c10] = some y10 := by
      have := hg 10 _ rfl
      simpa [Value.cells, k0, k1, k2] using this
    have g11 : DataW.trod enc Tryz.prog w base spare held n 3 [c11] = some y11 := by
      have := hg 11 _ rfl
      simpa [Value.cells, k0, k1, k2] using this
    have g12 : DataW.trod enc Tryz.prog w base spare held n 3 [c12] = some y12 := by
      have := hg 12 _ rfl
      simpa [Value.cells, k0, k1, k2] using this
    have g13 : DataW.trod enc Tryz.prog w base spare held n 22 [c13] = some y13 := by
      have := hg 13 _ rfl
      simpa [Value.cells, k0, k1, k2] using this
    obtain ⟨m0, e0, _, w0⟩ := DataW.trod_int Tryz.underlying3 g0
    obtain rfl : c0 = _ := by simpa using e0
    obtain ⟨m1, e1, _, w1⟩ := DataW.trod_int Tryz.underlying3 g1
    obtain rfl : c1 = _ := by simpa using e1
    obtain ⟨m2, e2, _, w2⟩ := DataW.trod_int Tryz.underlying3 g2
    obtain rfl : c2 = _ := by simpa using e2
    obtain ⟨m3, e3, _, w3⟩ := DataW.trod_int Tryz.underlying25 g3
    obtain rfl : c3 = _ := by simpa using e3
    obtain ⟨m4, e4, _, w4⟩ := DataW.trod_int Tryz.underlying3 g4
    obtain rfl : c4 = _ := by simpa using e4
    obtain ⟨m5, e5, _, w5⟩ := DataW.trod_int Tryz.underlying3 g5
    obtain rfl : c5 = _ := by simpa using e5
    obtain ⟨m6, e6, _, w6⟩ := DataW.trod_int Tryz.underlying3 g6
    obtain rfl : c6 = _ := by simpa using e6
    obtain ⟨m7, e7, _, w7⟩ := DataW.trod_int Tryz.underlying25 g7
    obtain rfl : c7 = _ := by simpa using e7
    obtain ⟨m8, e8, _, w8⟩ := DataW.trod_int Tryz.underlying3 g8
    obtain rfl : c8 = _ := by simpa using e8
    obtain ⟨m9, e9, _, w9⟩ := DataW.trod_int Tryz.underlying3 g9
    obtain rfl : c9 = _ := by simpa using e9
    obtain ⟨m10, e10, _, w10⟩ := DataW.trod_int Tryz.underlying3 g10
    obtain rfl : c10 = _ := by simpa using e10
    obtain ⟨m11, e11, _, w11⟩ := DataW.trod_int Tryz.underlying3 g11
    obtain rfl : c11 = _ := by simpa using e11
    obtain ⟨m12, e12, _, w12⟩ := DataW.trod_int Tryz.underlying3 g12
    obtain rfl : c12 = _ := by simpa using e12
    obtain ⟨x13, hb, hw13⟩ := buf_of_trod_w Tryz.underlying22 Tryz.underlying5 (by kernel_rfl) g13
    obtain ⟨a, k, rfl, _, _⟩ := hb.shape
    refine ⟨fun i => [m0, m1, m2, m3, m4, m5, m6, m7, m8, m9, m10, m11, m12, getV (cutL x13 0 4) false, getV (cutL x13 4 6) false].getD i 0, x13, a, k, rfl, hb, ⟨rfl, rfl, (wf_u64 w3).1, (wf_u64 w7).1⟩, fun hw => ?_⟩
    have hD : D = .agg [y0.1, y1.1, y2.1, y3.1, y4.1, y5.1, y6.1, y7.1, y8.1, y9.1, y10.1, y11.1, y12.1, y13.1] := by have := congrArg Prod.fst hx; simpa using this
    have hin : ∀ m ∈ y13.1.weights Tryz.prog 22, m ≤ reachBytes := fun m hm => by
      refine hw m ?_
      rw [hD]
      simp only [DataW.weights, hs]
      exact DataW.weights_mem_each (j := 13) (t := 22) (d := y13.1) rfl rfl m hm
    have r0 := hw13 reachBytes hin
    rw [kb] at r0
    unfold reachBytes at r0
    omega

set_option maxHeartbeats 4000000 in
theorem open_board {r : Reach} {b0 : Nat} {v : Value} {D : DataW H} {p : List MemPlace} (hv : Value.okWide Tryz.prog w r b0 36 v) (h : DataW.Trod enc Tryz.prog w base spare held 36 v D p) :
    ∃ (x : BX) (s : BS), v = bdV x s ∧ Bd w x s ∧ MacOf s.c s.m ∧ (0 ≤ s.T ∧ s.T < 18446744073709551616) ∧ (0 ≤ s.C ∧ s.C < 18446744073709551616) ∧ ((∀ m ∈ D.weights Tryz.prog 36, m ≤ reachBytes) → s.p.Fits ∧ s.m.length ≤ 140737488355328) := by
  have hs := Tryz.underlying36
  obtain ⟨⟨l⟩, rfl, hsz⟩ := okWide_struct hs hv
  rw [show Tryz.prog.cellsOf 36 = 27 by kernel_rfl] at hsz
  obtain ⟨fuel, hf⟩ := h
  obtain ⟨xs, n, _, hx, _, hl, hg⟩ := DataW.trod_struct hs hf
  have k0 : Tryz.prog.cellsOf 24 = 1 := by kernel_rfl
  have k1 : Tryz.prog.cellsOf 27 = 3 := by kernel_rfl
  have k2 : Tryz.prog.cellsOf 30 = 5 := by kernel_rfl
  have k3 : Tryz.prog.cellsOf 32 = 4 := by kernel_rfl
  have k4 : Tryz.prog.cellsOf 34 = 14 := by kernel_rfl
  match l, hsz, xs, hl with
  | [c0, c1, c2, c3, c4, c5, c6, c7, c8, c9, c10, c11, c12, c13, c14, c15, c16, c17, c18, c19, c20, c21, c22, c23, c24, c25, c26], _, [y0, y1, y2, y3, y4], _ =>
    have g0 : DataW.trod enc Tryz.prog w base spare held n 24 [c0] = some y0 := by
      have := hg 0 _ rfl
      simpa [Value.cells, k0, k1, k2, k3, k4] using this
    have g1 : DataW.trod enc Tryz.prog w base spare held n 27 [c1, c2, c3] = some y1 := by
      have := hg 1 _ rfl
      simpa [Value.cells, k0, k1, k2, k3, k4] using this
    have g2 : DataW.trod enc Tryz.prog w base spare held n 30 [c4, c5, c6, c7, c8] = some y2 := by
      have := hg 2 _ rfl
      simpa [Value.cells, k0, k1, k2, k3, k4] using this
    have g3 : DataW.trod enc Tryz.prog w base spare held n 32 [c9, c10, c11, c12] = some y3 := by
      have := hg 3 _ rfl
      simpa [Value.cells, k0, k1, k2, k3, k4] using this
    have g4 : DataW.trod enc Tryz.prog w base spare held n 34 [c13, c14, c15, c16, c17, c18, c19, c20, c21, c22, c23, c24, c25, c26] = some y4 := by
      have := hg 4 _ rfl
      simpa [Value.cells, k0, k1, k2, k3, k4] using this
    obtain ⟨a, nn, ca, xs0, e0, B0⟩ := in_ram rfl g0
    obtain ⟨T, C, S, e1, bT, bC⟩ := in_clint rfl g1
    obtain ⟨sp, p1, p2, p3, p4, p5, p6, e2, B2, F2⟩ := in_plic rfl g2
    obtain ⟨su, u1, u2, u3, u4, e3, B3⟩ := in_uart rfl g3
    obtain ⟨cc, m, ma, mk, e4, B4, M4, F4⟩ := in_nic rfl g4
    obtain ⟨rfl, _⟩ := B0.lenEq
    simp only [plV, uaV, ncV, ncA, Value.agg.injEq, Array.mk.injEq, List.cons.injEq, and_true] at e0 e1 e2 e3 e4
    obtain rfl := e0
    obtain ⟨rfl, rfl, rfl⟩ := e1
    obtain ⟨rfl, rfl, rfl, rfl, rfl⟩ := e2
    obtain ⟨rfl, rfl, rfl, rfl⟩ := e3
    obtain ⟨rfl, rfl, rfl, rfl, rfl, rfl, rfl, rfl, rfl, rfl, rfl, rfl, rfl, rfl⟩ := e4
    refine ⟨⟨a, ca, p1, p2, p3, p4, p5, p6, u1, u2, u3, u4, ma, mk⟩, ⟨xs0, T, C, S, sp, su, cc, m⟩, rfl, ⟨B0, B2, B3, B4⟩, M4, bT, bC, fun hw => ?_⟩
    have hD : D = .agg [y0.1, y1.1, y2.1, y3.1, y4.1] := by have := congrArg Prod.fst hx; simpa using this
    have hin : ∀ (j : Nat) (t : TypeId) (d : DataW H), [24, 27, 30, 32, 34][j]? = some t → [y0.1, y1.1, y2.1, y3.1, y4.1][j]? = some d → ∀ m ∈ d.weights Tryz.prog t, m ≤ reachBytes := fun j t d h1 h2 m hm => by
      refine hw m ?_
      rw [hD]
      simp only [DataW.weights, hs]
      exact DataW.weights_mem_each h1 h2 m hm
    exact ⟨F2 (hin 2 _ _ rfl rfl), F4 (hin 4 _ _ rfl rfl)⟩
end
end Go.Proofs.YtgcfmijkggpemaaGreat
set_option maxRecDepth 4000
set_option linter.unusedVariables false
set_option linter.unusedSimpArgs false
namespace Go.Proofs.YtgcfmijkggpemaaGreat
open Go.RowKit

theorem set_again {x : VS} (h : x.Ok) (l : Int) : (x.set l).set l = x.set l := by
  have hq : Src (bits .and .i64 l 6) := and_six l
  have e : setN (setN x.n x.k l) x.k l = setN x.n x.k l := by
    unfold setN
    have hn := h.n
    have hk := h.k
    unfold Src at hq hn hk
    rcases hq with hq | hq | hq | hq <;> rw [hq] <;> rcases hn with hn | hn | hn | hn <;> rw [hn] <;> rcases hk with hk | hk | hk | hk <;> rw [hk] <;> decide
  show ({ x with n := setN (setN x.n x.k l) x.k l } : VS) = { x with n := setN x.n x.k l }
  rw [e]
theorem setS_again {w : World} {v : Value} {s : PS} (hp : Pl w v s) (l : Int) : setS (setS s l) l = setS s l := by
  cases hc : plChk s
  · have e : setS s l = s := by unfold setS; rw [hc]; rfl
    rw [e, e]
  · obtain ⟨x, hx, rfl⟩ := hp.vs hc
    have e1 : setS x.ps l = (x.set l).ps := by unfold setS; rw [hc]; rfl
    have e2 : setS (x.set l).ps l = ((x.set l).set l).ps := by unfold setS; rw [chk_mk (hx.set l)]; rfl
    rw [e1, e2, set_again hx]
theorem setB_again {w : World} {b : BX} {s : BS} (hb : Bd w b s) : setB (setB s) = setB s := by
  show ({ s with p := setS (setS s.p (srcV s)) (srcV s) } : BS) = { s with p := setS s.p (srcV s) }
  rw [setS_again hb.p]
theorem setS_len {w : World} {v : Value} {s : PS} (hp : Pl w v s) (l : Int) (h1 : s.pr.length ≤ 17592186044416) (h2 : s.en.length ≤ 17592186044416) (h3 : s.th.length ≤ 17592186044416) : (setS s l).pr.length ≤ 17592186044416 ∧ (setS s l).en.length ≤ 17592186044416 ∧ (setS s l).th.length ≤ 17592186044416 := by
  cases hc : plChk s
  · have e : setS s l = s := by unfold setS; rw [hc]; rfl
    rw [e]; exact ⟨h1, h2, h3⟩
  · obtain ⟨x, hx, rfl⟩ := hp.vs hc
    have e1 : setS x.ps l = (x.set l).ps := by unfold setS; rw [hc]; rfl
    rw [e1]
    simp
theorem BOk.setB {w : World} {b : BX} {s : BS} (hb : Bd w b s) (h : BOk s) : BOk (setB s) := by
  obtain ⟨k1, k2, k3⟩ := setS_len hb.p (srcV s) h.pr h.en h.th
  exact ⟨h.r, k1, k2, k3, h.i, h.o, h.m, h.T, h.C⟩
theorem lines_bits (s : BS) : bits .andNot .u64 (linesV s) 2696 = 0 := by
  unfold linesV
  generalize s.S = a
  generalize decide (s.C ≤ s.T) = b
  generalize (bestS s.p 0 != 0) = c
  generalize (bestS s.p 1 != 0) = d
  cases a <;> cases b <;> cases c <;> cases d <;> decide
theorem bok_of {s : BS} (bT : 0 ≤ s.T ∧ s.T < 18446744073709551616) (bC : 0 ≤ s.C ∧ s.C < 18446744073709551616) (f : s.p.Fits ∧ s.m.length ≤ 140737488355328) (h1 : s.r.length ≤ 70000) (h2 : s.u.i.length ≤ 5000) (h3 : s.u.o.length ≤ 5000) : BOk s :=
  ⟨by omega, f.1.l1, f.1.l2, f.1.l3, by omega, by omega, f.2, bT, bC⟩
theorem small_false {s : BS} : (decide (s.r.length ≤ 70000) && decide (s.u.i.length ≤ 5000) && decide (s.u.o.length ≤ 5000)) = true → s.r.length ≤ 70000 ∧ s.u.i.length ≤ 5000 ∧ s.u.o.length ≤ 5000 := by
  simp only [Bool.and_eq_true, decide_eq_true_eq]
  rintro ⟨⟨h1, h2⟩, h3⟩
  exact ⟨h1, h2, h3⟩
theorem writeV_no {xs : List Int} {x n y : Int} (h : (sizeV n && insideV xs.length x n) = false) : writeV xs x n y = xs := by
  unfold writeV
  cases hs : sizeV n
  · rfl
  · rw [hs] at h
    obtain ⟨k, rfl, hk, _⟩ := size_nat hs
    simp only [Bool.true_and] at h
    rw [if_pos rfl]
    unfold fillV
    rw [putL_length, Int.toNat_natCast, h]
    rfl
theorem uaStS_no {s : US} {off n y : Int} (h : (!uaBadU off n) = false) : uaStS s off n y = s := by
  have : uaBadU off n = true := by simpa using h
  unfold uaStS
  rw [if_pos this]
theorem read_write {xs : List Int} {x y : Int} {n : Nat} (hs : sizeV n = true) (h : insideV xs.length x n = true) (h8 : n ≤ 8) : readV (writeV xs x n y) x n = y % 2 ^ (8 * n) := by
  obtain ⟨lo, k, rfl, hk, hl⟩ := insideV_no h
  obtain rfl : n = k := by omega
  have e1 : writeV xs (2147483648 + (lo : Int)) n y = lay xs lo (putL y n false) := by
    unfold writeV fillV
    rw [hs, if_pos rfl, Int.toNat_natCast, putL_length, h, if_pos rfl]
    congr 1
    omega
  have hlen : (lay xs lo (putL y n false)).length = xs.length := lay_length (by rw [putL_length]; exact hl)
  unfold readV
  rw [hs, if_pos rfl, e1, bytesV_in (by rw [hlen]; exact hl)]
  have := cut_lay_same (xs := xs) (ys := putL y n false) (lo := lo) (by rw [putL_length]; exact hl)
  rw [putL_length] at this
  rw [this]
  exact getV_putL y n h8
end Go.Proofs.YtgcfmijkggpemaaGreat
