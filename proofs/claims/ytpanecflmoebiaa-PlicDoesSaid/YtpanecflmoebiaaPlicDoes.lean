/-
  The statement that the interrupt controller answers what the document's page of it answers: what is set, loaded and stored, which source is told, which controllers may be; what is handed in stays. For every controller, right or not, lines, place, size and number. Conditions: none.
-/
import Derived.Test.YtpanecflmoebiaaRows
import Derived.Test.YtpanecflmoebiaaPlW
import Derived.Test.YtpanecflmoebiaaDeps
import Derived.Test.YtpanecflmoebiaaLaw
import Derived.Deep.QuietTactic
import Derived.BigQuiet
import Derived.Deep.DeepCutAuto
set_option linter.unusedVariables false
set_option linter.unusedSimpArgs false
namespace Go.Proofs.Ytpanecflmoebiaa.plicDoes
open Go.ChangeShapes Go.WideShapes Go.ChangeAt Go.RowKit

/-- What the operations of a region give. -/
def ownR (W : World) (s : PS) (a1 : Option Addr) (a2 : Nat) (a3 : Option Addr) (a4 : Nat) (a5 : Option Addr) (a6 : Nat) (D : Nat) : (Nat → Value) → Nat → Value → World → Prop
  | _, 0, v, w => ∃ b0, v = .slice (some ⟨b0, 0, none⟩) 0 0 ∧ Ints.Row w W.heap.size (.slice (some ⟨b0, 0, none⟩) 0 0) []
  | _, 1, v, _ => v = .pointer (some ⟨D, 0, none⟩)
  | _, 2, v, _ => v = .slice a1 s.pr.length a2
  | _, 3, v, w => Ints.Row w W.heap.size v s.pr
  | _, 4, v, _ => v = .pointer (some ⟨D, 1, none⟩)
  | _, 5, v, _ => v = .int .i64 s.n
  | _, 6, v, _ => v = .pointer (some ⟨D, 2, none⟩)
  | _, 7, v, _ => v = .int .i64 s.k
  | _, 8, v, w => ∃ b0, v = .slice (some ⟨b0, 0, none⟩) 0 0 ∧ Ints.Row w W.heap.size (.slice (some ⟨b0, 0, none⟩) 0 0) []
  | _, 9, v, _ => v = .pointer (some ⟨D, 3, none⟩)
  | _, 10, v, _ => v = .slice a3 s.en.length a4
  | _, 11, v, w => Ints.Row w W.heap.size v s.en
  | _, 12, v, w => ∃ b0, v = .slice (some ⟨b0, 0, none⟩) 0 0 ∧ Ints.Row w W.heap.size (.slice (some ⟨b0, 0, none⟩) 0 0) []
  | _, 13, v, _ => v = .pointer (some ⟨D, 4, none⟩)
  | _, 14, v, _ => v = .slice a5 s.th.length a6
  | _, 15, v, w => Ints.Row w W.heap.size v s.th
  | vs, 16, v, _ => v = .agg #[vs 3, .int .i64 s.n, .int .i64 s.k, vs 11, vs 15]
  | _, 17, v, w => ∃ b0, v = .pointer (some ⟨b0, 0, none⟩) ∧ W.heap.size ≤ b0 ∧ Blk w b0 #[.slice none 0 0, .int .i64 0, .int .i64 0, .slice none 0 0, .slice none 0 0] 24
  | _, _, _, _ => True
theorem ownR_grew {W : World} {s : PS} {a1 : Option Addr} {a2 : Nat} {a3 : Option Addr} {a4 : Nat} {a5 : Option Addr} {a6 : Nat} {D : Nat} : ∀ vs j v w w', Grew w w' → ownR W s a1 a2 a3 a4 a5 a6 D vs j v w → ownR W s a1 a2 a3 a4 a5 a6 D vs j v w'
  | _, 0, _, _, _, g, ⟨b0, e, h0⟩ => ⟨b0, e, h0.grew g⟩
  | _, 1, _, _, _, _, h => h
  | _, 2, _, _, _, _, h => h
  | _, 3, _, _, _, g, h => h.grew g
  | _, 4, _, _, _, _, h => h
  | _, 5, _, _, _, _, h => h
  | _, 6, _, _, _, _, h => h
  | _, 7, _, _, _, _, h => h
  | _, 8, _, _, _, g, ⟨b0, e, h0⟩ => ⟨b0, e, h0.grew g⟩
  | _, 9, _, _, _, _, h => h
  | _, 10, _, _, _, _, h => h
  | _, 11, _, _, _, g, h => h.grew g
  | _, 12, _, _, _, g, ⟨b0, e, h0⟩ => ⟨b0, e, h0.grew g⟩
  | _, 13, _, _, _, _, h => h
  | _, 14, _, _, _, _, h => h
  | _, 15, _, _, _, g, h => h.grew g
  | _, 16, _, _, _, _, h => h
  | _, 17, _, _, _, g, ⟨b0, e, h0, h1⟩ => ⟨b0, e, h0, h1.grew g⟩
  | _, _ + 18, _, _, _, _, _ => True.intro
theorem ownR_lt {W : World} {s : PS} {a1 : Option Addr} {a2 : Nat} {a3 : Option Addr} {a4 : Nat} {a5 : Option Addr} {a6 : Nat} {D : Nat} : ∀ vs j v w, ([17] : List Nat).contains j = true → ownR W s a1 a2 a3 a4 a5 a6 D vs j v w → ∀ g, leadsTo v = some g → g < w.heap.size
  | _, 0, _, _, hc, _ => by simp at hc
  | _, 1, _, _, hc, _ => by simp at hc
  | _, 2, _, _, hc, _ => by simp at hc
  | _, 3, _, _, hc, _ => by simp at hc
  | _, 4, _, _, hc, _ => by simp at hc
  | _, 5, _, _, hc, _ => by simp at hc
  | _, 6, _, _, hc, _ => by simp at hc
  | _, 7, _, _, hc, _ => by simp at hc
  | _, 8, _, _, hc, _ => by simp at hc
  | _, 9, _, _, hc, _ => by simp at hc
  | _, 10, _, _, hc, _ => by simp at hc
  | _, 11, _, _, hc, _ => by simp at hc
  | _, 12, _, _, hc, _ => by simp at hc
  | _, 13, _, _, hc, _ => by simp at hc
  | _, 14, _, _, hc, _ => by simp at hc
  | _, 15, _, _, hc, _ => by simp at hc
  | _, 16, _, _, hc, _ => by simp at hc
  | _, 17, _, w, _, ⟨b0, e, h0, h1⟩ => by subst e; intro g hg; simp only [leadsTo, Option.some.injEq] at hg; subst hg; exact h1.lt
  | _, _ + 18, _, _, hc, _ => by simp at hc
theorem ownR_loc {W : World} {s : PS} {a1 : Option Addr} {a2 : Nat} {a3 : Option Addr} {a4 : Nat} {a5 : Option Addr} {a6 : Nat} {D : Nat} : ∀ (vs vs' : Nat → Value) j v w, (∀ k ∈ ([[], [], [], [], [], [], [], [], [], [], [], [], [], [], [], [], [3, 11, 15], []] : List (List Nat)).getD j [], vs k = vs' k) → ownR W s a1 a2 a3 a4 a5 a6 D vs j v w → ownR W s a1 a2 a3 a4 a5 a6 D vs' j v w
  | _, _, 0, _, _, _, h => h
  | _, _, 1, _, _, _, h => h
  | _, _, 2, _, _, _, h => h
  | _, _, 3, _, _, _, h => h
  | _, _, 4, _, _, _, h => h
  | _, _, 5, _, _, _, h => h
  | _, _, 6, _, _, _, h => h
  | _, _, 7, _, _, _, h => h
  | _, _, 8, _, _, _, h => h
  | _, _, 9, _, _, _, h => h
  | _, _, 10, _, _, _, h => h
  | _, _, 11, _, _, _, h => h
  | _, _, 12, _, _, _, h => h
  | _, _, 13, _, _, _, h => h
  | _, _, 14, _, _, _, h => h
  | _, _, 15, _, _, _, h => h
  | vs, vs', 16, v, w, hk, h => by show _ = _; rw [← hk 3 (by decide), ← hk 11 (by decide), ← hk 15 (by decide)]; exact h
  | _, _, 17, _, _, _, h => h
  | _, _, _ + 18, _, _, _, _ => True.intro

/-- What the operations of a region give. -/
def lstR (s sT : PS) (a1 : Option Addr) (a2 : Nat) (a3 : Option Addr) (a4 : Nat) (a5 : Option Addr) (a6 : Nat) (o1 : Option Addr) (o2 : Nat) (o3 : Option Addr) (o4 : Nat) (o5 : Option Addr) (o6 : Nat) (l z : Int) (cb : Bool) : (Nat → Value) → Nat → Value → World → Prop
  | _, 0, v, _ => v = plV s o1 o2 o3 o4 o5 o6
  | _, 1, v, _ => v = .int .i64 l
  | _, 2, v, w => Pl w v sT
  | _, 3, v, _ => v = plV s a1 a2 a3 a4 a5 a6
  | _, 4, v, _ => v = .int .i64 l
  | _, 5, v, w => Pl w v sT
  | _, 6, v, _ => v = .bool true
  | _, 7, v, _ => v = .bool true
  | _, 8, v, _ => v = plV s o1 o2 o3 o4 o5 o6
  | _, 9, v, _ => v = .int .i64 l
  | _, 10, v, _ => v = .int .i64 z
  | _, 11, v, _ => v = plV s a1 a2 a3 a4 a5 a6
  | _, 12, v, _ => v = .int .i64 l
  | _, 13, v, _ => v = .int .i64 z
  | _, 14, v, _ => v = .bool true
  | _, 15, v, _ => v = .bool true
  | _, 16, v, _ => v = .bool true
  | _, 17, v, _ => v = plV s o1 o2 o3 o4 o5 o6
  | _, 18, v, _ => v = .bool cb
  | _, 19, v, _ => v = plV s a1 a2 a3 a4 a5 a6
  | _, 20, v, _ => v = .bool cb
  | _, 21, v, _ => v = .bool true
  | _, 22, v, _ => v = .bool true
  | _, 23, v, _ => v = .bool true
  | _, 24, v, w => Pl w v newV.ps
  | _, 25, v, w => Pl w v newV.ps
  | _, 26, v, _ => v = .bool true
  | _, 27, v, _ => v = .bool true
  | _, 28, v, _ => v = .bool true
  | _, 29, v, _ => v = plV s o1 o2 o3 o4 o5 o6
  | _, 30, v, _ => v = plV s a1 a2 a3 a4 a5 a6
  | _, 31, v, _ => v = .bool true
  | _, 32, v, _ => v = .bool true
  | _, 33, v, _ => v = .bool true
  | _, 34, v, _ => v = .bool true
  | _, 35, v, _ => v = .bool true
  | _, 36, v, _ => v = .bool true
  | _, _, _, _ => True
theorem lstR_grew {s sT : PS} {a1 : Option Addr} {a2 : Nat} {a3 : Option Addr} {a4 : Nat} {a5 : Option Addr} {a6 : Nat} {o1 : Option Addr} {o2 : Nat} {o3 : Option Addr} {o4 : Nat} {o5 : Option Addr} {o6 : Nat} {l z : Int} {cb : Bool} : ∀ vs j v w w', Grew w w' → lstR s sT a1 a2 a3 a4 a5 a6 o1 o2 o3 o4 o5 o6 l z cb vs j v w → lstR s sT a1 a2 a3 a4 a5 a6 o1 o2 o3 o4 o5 o6 l z cb vs j v w'
  | _, 0, _, _, _, _, h => h
  | _, 1, _, _, _, _, h => h
  | _, 2, _, _, _, g, h => h.grew g
  | _, 3, _, _, _, _, h => h
  | _, 4, _, _, _, _, h => h
  | _, 5, _, _, _, g, h => h.grew g
  | _, 6, _, _, _, _, h => h
  | _, 7, _, _, _, _, h => h
  | _, 8, _, _, _, _, h => h
  | _, 9, _, _, _, _, h => h
  | _, 10, _, _, _, _, h => h
  | _, 11, _, _, _, _, h => h
  | _, 12, _, _, _, _, h => h
  | _, 13, _, _, _, _, h => h
  | _, 14, _, _, _, _, h => h
  | _, 15, _, _, _, _, h => h
  | _, 16, _, _, _, _, h => h
  | _, 17, _, _, _, _, h => h
  | _, 18, _, _, _, _, h => h
  | _, 19, _, _, _, _, h => h
  | _, 20, _, _, _, _, h => h
  | _, 21, _, _, _, _, h => h
  | _, 22, _, _, _, _, h => h
  | _, 23, _, _, _, _, h => h
  | _, 24, _, _, _, g, h => h.grew g
  | _, 25, _, _, _, g, h => h.grew g
  | _, 26, _, _, _, _, h => h
  | _, 27, _, _, _, _, h => h
  | _, 28, _, _, _, _, h => h
  | _, 29, _, _, _, _, h => h
  | _, 30, _, _, _, _, h => h
  | _, 31, _, _, _, _, h => h
  | _, 32, _, _, _, _, h => h
  | _, 33, _, _, _, _, h => h
  | _, 34, _, _, _, _, h => h
  | _, 35, _, _, _, _, h => h
  | _, 36, _, _, _, _, h => h
  | _, _ + 37, _, _, _, _, _ => True.intro
theorem lstR_lt {s sT : PS} {a1 : Option Addr} {a2 : Nat} {a3 : Option Addr} {a4 : Nat} {a5 : Option Addr} {a6 : Nat} {o1 : Option Addr} {o2 : Nat} {o3 : Option Addr} {o4 : Nat} {o5 : Option Addr} {o6 : Nat} {l z : Int} {cb : Bool} : ∀ vs j v w, ([] : List Nat).contains j = true → lstR s sT a1 a2 a3 a4 a5 a6 o1 o2 o3 o4 o5 o6 l z cb vs j v w → ∀ g, leadsTo v = some g → g < w.heap.size
  | _, 0, _, _, hc, _ => by simp at hc
  | _, 1, _, _, hc, _ => by simp at hc
  | _, 2, _, _, hc, _ => by simp at hc
  | _, 3, _, _, hc, _ => by simp at hc
  | _, 4, _, _, hc, _ => by simp at hc
  | _, 5, _, _, hc, _ => by simp at hc
  | _, 6, _, _, hc, _ => by simp at hc
  | _, 7, _, _, hc, _ => by simp at hc
  | _, 8, _, _, hc, _ => by simp at hc
  | _, 9, _, _, hc, _ => by simp at hc
  | _, 10, _, _, hc, _ => by simp at hc
  | _, 11, _, _, hc, _ => by simp at hc
  | _, 12, _, _, hc, _ => by simp at hc
  | _, 13, _, _, hc, _ => by simp at hc
  | _, 14, _, _, hc, _ => by simp at hc
  | _, 15, _, _, hc, _ => by simp at hc
  | _, 16, _, _, hc, _ => by simp at hc
  | _, 17, _, _, hc, _ => by simp at hc
  | _, 18, _, _, hc, _ => by simp at hc
  | _, 19, _, _, hc, _ => by simp at hc
  | _, 20, _, _, hc, _ => by simp at hc
  | _, 21, _, _, hc, _ => by simp at hc
  | _, 22, _, _, hc, _ => by simp at hc
  | _, 23, _, _, hc, _ => by simp at hc
  | _, 24, _, _, hc, _ => by simp at hc
  | _, 25, _, _, hc, _ => by simp at hc
  | _, 26, _, _, hc, _ => by simp at hc
  | _, 27, _, _, hc, _ => by simp at hc
  | _, 28, _, _, hc, _ => by simp at hc
  | _, 29, _, _, hc, _ => by simp at hc
  | _, 30, _, _, hc, _ => by simp at hc
  | _, 31, _, _, hc, _ => by simp at hc
  | _, 32, _, _, hc, _ => by simp at hc
  | _, 33, _, _, hc, _ => by simp at hc
  | _, 34, _, _, hc, _ => by simp at hc
  | _, 35, _, _, hc, _ => by simp at hc
  | _, 36, _, _, hc, _ => by simp at hc
  | _, _ + 37, _, _, hc, _ => by simp at hc
theorem lstR_loc {s sT : PS} {a1 : Option Addr} {a2 : Nat} {a3 : Option Addr} {a4 : Nat} {a5 : Option Addr} {a6 : Nat} {o1 : Option Addr} {o2 : Nat} {o3 : Option Addr} {o4 : Nat} {o5 : Option Addr} {o6 : Nat} {l z : Int} {cb : Bool} : ∀ (vs vs' : Nat → Value) j v w, (∀ k ∈ ([[], [], [], [], [], [], [], [], [], [], [], [], [], [], [], [], [], [], [], [], [], [], [], [], [], [], [], [], [], [], [], [], [], [], [], [], []] : List (List Nat)).getD j [], vs k = vs' k) → lstR s sT a1 a2 a3 a4 a5 a6 o1 o2 o3 o4 o5 o6 l z cb vs j v w → lstR s sT a1 a2 a3 a4 a5 a6 o1 o2 o3 o4 o5 o6 l z cb vs' j v w
  | _, _, 0, _, _, _, h => h
  | _, _, 1, _, _, _, h => h
  | _, _, 2, _, _, _, h => h
  | _, _, 3, _, _, _, h => h
  | _, _, 4, _, _, _, h => h
  | _, _, 5, _, _, _, h => h
  | _, _, 6, _, _, _, h => h
  | _, _, 7, _, _, _, h => h
  | _, _, 8, _, _, _, h => h
  | _, _, 9, _, _, _, h => h
  | _, _, 10, _, _, _, h => h
  | _, _, 11, _, _, _, h => h
  | _, _, 12, _, _, _, h => h
  | _, _, 13, _, _, _, h => h
  | _, _, 14, _, _, _, h => h
  | _, _, 15, _, _, _, h => h
  | _, _, 16, _, _, _, h => h
  | _, _, 17, _, _, _, h => h
  | _, _, 18, _, _, _, h => h
  | _, _, 19, _, _, _, h => h
  | _, _, 20, _, _, _, h => h
  | _, _, 21, _, _, _, h => h
  | _, _, 22, _, _, _, h => h
  | _, _, 23, _, _, _, h => h
  | _, _, 24, _, _, _, h => h
  | _, _, 25, _, _, _, h => h
  | _, _, 26, _, _, _, h => h
  | _, _, 27, _, _, _, h => h
  | _, _, 28, _, _, _, h => h
  | _, _, 29, _, _, _, h => h
  | _, _, 30, _, _, _, h => h
  | _, _, 31, _, _, _, h => h
  | _, _, 32, _, _, _, h => h
  | _, _, 33, _, _, _, h => h
  | _, _, 34, _, _, _, h => h
  | _, _, 35, _, _, _, h => h
  | _, _, 36, _, _, _, h => h
  | _, _, _ + 37, _, _, _, _ => True.intro

set_option maxRecDepth 100000 in
set_option maxHeartbeats 16000000 in
theorem walk_with (s sL sS sT : PS) (a1 : Option Addr) (a2 : Nat) (a3 : Option Addr) (a4 : Nat) (a5 : Option Addr) (a6 : Nat) (l f q x y z : Int) (b cb : Bool) (W : World) (hP : Pl W (plV s a1 a2 a3 a4 a5 a6) s) (hf : s.Fits)
    (rL : ∀ w v, Pl w v s → AnsP 11 #[v, .int .u64 f, .int .i64 q] (fun v' => .tuple #[.int .u64 y, v', .bool b]) sL w)
    (rL' : ∀ w v, Pl w v s → AnsP 13 #[v, .int .u64 f, .int .i64 q] (fun v' => .tuple #[.int .u64 y, v', .bool b]) sL w)
    (rS : ∀ w v, Pl w v s → AnsP 12 #[v, .int .u64 f, .int .i64 q, .int .u64 x] (fun v' => .tuple #[v', .bool b]) sS w)
    (rS' : ∀ w v, Pl w v s → AnsP 14 #[v, .int .u64 f, .int .i64 q, .int .u64 x] (fun v' => .tuple #[v', .bool b]) sS w)
    (rT : ∀ w v, Pl w v s → AnsP 9 #[v, .int .i64 l] (fun v' => v') sT w)
    (rT' : ∀ w v, Pl w v s → AnsP 15 #[v, .int .i64 l] (fun v' => v') sT w)
    (rB : ∀ w v, Pl w v s → Ans 16 #[v, .int .i64 l] (.int .i64 z) w)
    (rB' : ∀ w v, Pl w v s → Ans 17 #[v, .int .i64 l] (.int .i64 z) w)
    (rC : ∀ w v, Pl w v s → Ans 7 #[v] (.bool cb) w)
    (rC' : ∀ w v, Pl w v s → Ans 18 #[v] (.bool cb) w)
    : Calls Try.prog 4 #[plV s a1 a2 a3 a4 a5 a6, .int .i64 l, .int .u64 f, .int .i64 q, .int .u64 x] W fun e w' => e = .returned (.bool true) ∧ Below W.heap.size W w' := by
  have RL := Lib.hid rL
  have RL' := Lib.hid rL'
  have RS := Lib.hid rS
  have RS' := Lib.hid rS'
  have RT := Lib.hid rT
  have RT' := Lib.hid rT'
  have RB := Lib.hid rB
  have RB' := Lib.hid rB'
  have RC := Lib.hid rC
  have RC' := Lib.hid rC'
  have HP := Lib.hid hP
  have hl1 := Lib.hid hf.l1
  have hl2 := Lib.hid hf.l2
  have hl3 := Lib.hid hf.l3
  have HB1 : Hid (Ints.Buf W (.slice a1 s.pr.length a2) s.pr) := Lib.hid (by obtain ⟨_, _, _, e, h1, h2, h3⟩ := hP.shape; cases e; exact h1)
  have HB2 : Hid (Ints.Buf W (.slice a3 s.en.length a4) s.en) := Lib.hid (by obtain ⟨_, _, _, e, h1, h2, h3⟩ := hP.shape; cases e; exact h2)
  have HB3 : Hid (Ints.Buf W (.slice a5 s.th.length a6) s.th) := Lib.hid (by obtain ⟨_, _, _, e, h1, h2, h3⟩ := hP.shape; cases e; exact h3)
  have HI := Lib.hid (show intI s.n ∧ intI s.k from ⟨hP.n, hP.k⟩)
  clear rL rL' rS rS' rT rT' rB rB' rC rC' hP hf
  go_enter Try.func4, Try.ntmps4
  go_upto_region 1 with fail
  have hA : Blk (W.alloc (.cells #[.slice a1 s.pr.length a2, .int .i64 s.n, .int .i64 s.k, .slice a3 s.en.length a4, .slice a5 s.th.length a6] 24)) W.heap.size #[.slice a1 s.pr.length a2, .int .i64 s.n, .int .i64 s.k, .slice a3 s.en.length a4, .slice a5 s.th.length a6] 24 := Blk.new W _ _ _ rfl
  have g0 : Grew W (W.alloc (.cells #[.slice a1 s.pr.length a2, .int .i64 s.n, .int .i64 s.k, .slice a3 s.en.length a4, .slice a5 s.th.length a6] 24)) := (Grew.refl W).alloc _
  generalize (W.alloc (.cells #[.slice a1 s.pr.length a2, .int .i64 s.n, .int .i64 s.k, .slice a3 s.en.length a4, .slice a5 s.th.length a6] 24)) = w0 at *
  have HP0 := Lib.hid (HP.out.grew g0)
  have D0 := Grew.refl w0
  replace HB1 := Lib.hid (HB1.out.grew g0)
  replace HB2 := Lib.hid (HB2.out.grew g0)
  replace HB3 := Lib.hid (HB3.out.grew g0)
  have hD0 := hA.lt
  generalize hD : W.heap.size = D at *
  have HD := Lib.hid hD
  clear hD
  refine region_deps 18 [some 22, some 23, some 24, some 25, some 26, some 27, some 28, some 29, some 30, some 31, some 32, some 33, some 34, some 35, some 36, some 37, some 38, some 11] [[], [], [], [], [], [], [], [], [], [], [], [], [], [], [], [], [3, 11, 15], []] [17] (ownR w0 s a1 a2 a3 a4 a5 a6 D) ownR_grew ownR_lt ownR_loc (Grew.refl w0) (by kernel_rfl) (by kernel_rfl) ?_ ?_
  · simp only [List.take_succ_cons, List.take_zero]
    refine GivesAll.cons (fun vs w1 g1 hd K hK => ?_) ?_
    · simp only [putsT, Nat.zero_add, Nat.reduceAdd, List.getD_cons_zero, List.getD_cons_succ, Act.put, List.setIfInBounds_toArray, List.set_cons_zero, List.set_cons_succ] at hK ⊢
      go_simp
      exact hK _ _ ((Grew.refl _).alloc _) ⟨_, rfl, Ints.Row.lit w1 _ g1.size #[] [] rfl (by decide) _ rfl 0 rfl⟩ (fun h => by simp at h)
    refine GivesAll.cons (fun vs w1 g1 hd K hK => ?_) ?_
    · simp only [putsT, Nat.zero_add, Nat.reduceAdd, List.getD_cons_zero, List.getD_cons_succ, Act.put, List.setIfInBounds_toArray, List.set_cons_zero, List.set_cons_succ] at hK ⊢
      go_simp
      exact hK _ _ (Grew.refl _) rfl (fun h => by simp at h)
    refine GivesAll.cons (fun vs w1 g1 hd K hK => ?_) ?_
    · have e1 : vs 1 = .pointer (some ⟨D, 0, none⟩) := hd 1 (by kernel_rfl)
      simp only [putsT, Nat.zero_add, Nat.reduceAdd, List.getD_cons_zero, List.getD_cons_succ, Act.put, List.setIfInBounds_toArray, List.set_cons_zero, List.set_cons_succ, e1] at hK ⊢
      have c0 := (hA.grew g1).cell 0
      go_simp
      exact hK _ _ (Grew.refl _) rfl (fun h => by simp at h)
    refine GivesAll.cons (fun vs w1 g1 hd K hK => ?_) ?_
    · obtain ⟨b0_0, e0, r0_0⟩ := hd 0 (by kernel_rfl)
      have e2 : vs 2 = .slice a1 s.pr.length a2 := hd 2 (by kernel_rfl)
      simp only [putsT, Nat.zero_add, Nat.reduceAdd, List.getD_cons_zero, List.getD_cons_succ, Act.put, List.setIfInBounds_toArray, List.set_cons_zero, List.set_cons_succ, e0, e2] at hK ⊢
      refine Ints.step_append_lit rfl (.tmp 22) (.tmp 24) rfl g1.size r0_0 (HB1.out.grew g1) (by rfl) (by rfl) hl1.out ?_
      intro v5 w5 h5 g5
      exact hK _ _ g5 h5 (fun h => by simp at h)
    refine GivesAll.cons (fun vs w1 g1 hd K hK => ?_) ?_
    · simp only [putsT, Nat.zero_add, Nat.reduceAdd, List.getD_cons_zero, List.getD_cons_succ, Act.put, List.setIfInBounds_toArray, List.set_cons_zero, List.set_cons_succ] at hK ⊢
      go_simp
      exact hK _ _ (Grew.refl _) rfl (fun h => by simp at h)
    refine GivesAll.cons (fun vs w1 g1 hd K hK => ?_) ?_
    · have e4 : vs 4 = .pointer (some ⟨D, 1, none⟩) := hd 4 (by kernel_rfl)
      simp only [putsT, Nat.zero_add, Nat.reduceAdd, List.getD_cons_zero, List.getD_cons_succ, Act.put, List.setIfInBounds_toArray, List.set_cons_zero, List.set_cons_succ, e4] at hK ⊢
      have c1 := (hA.grew g1).cell 1
      go_simp
      exact hK _ _ (Grew.refl _) rfl (fun h => by simp at h)
    refine GivesAll.cons (fun vs w1 g1 hd K hK => ?_) ?_
    · simp only [putsT, Nat.zero_add, Nat.reduceAdd, List.getD_cons_zero, List.getD_cons_succ, Act.put, List.setIfInBounds_toArray, List.set_cons_zero, List.set_cons_succ] at hK ⊢
      go_simp
      exact hK _ _ (Grew.refl _) rfl (fun h => by simp at h)
    refine GivesAll.cons (fun vs w1 g1 hd K hK => ?_) ?_
    · have e6 : vs 6 = .pointer (some ⟨D, 2, none⟩) := hd 6 (by kernel_rfl)
      simp only [putsT, Nat.zero_add, Nat.reduceAdd, List.getD_cons_zero, List.getD_cons_succ, Act.put, List.setIfInBounds_toArray, List.set_cons_zero, List.set_cons_succ, e6] at hK ⊢
      have c2 := (hA.grew g1).cell 2
      go_simp
      exact hK _ _ (Grew.refl _) rfl (fun h => by simp at h)
    refine GivesAll.cons (fun vs w1 g1 hd K hK => ?_) ?_
    · simp only [putsT, Nat.zero_add, Nat.reduceAdd, List.getD_cons_zero, List.getD_cons_succ, Act.put, List.setIfInBounds_toArray, List.set_cons_zero, List.set_cons_succ] at hK ⊢
      go_simp
      exact hK _ _ ((Grew.refl _).alloc _) ⟨_, rfl, Ints.Row.lit w1 _ g1.size #[] [] rfl (by decide) _ rfl 0 rfl⟩ (fun h => by simp at h)
    refine GivesAll.cons (fun vs w1 g1 hd K hK => ?_) ?_
    · simp only [putsT, Nat.zero_add, Nat.reduceAdd, List.getD_cons_zero, List.getD_cons_succ, Act.put, List.setIfInBounds_toArray, List.set_cons_zero, List.set_cons_succ] at hK ⊢
      go_simp
      exact hK _ _ (Grew.refl _) rfl (fun h => by simp at h)
    refine GivesAll.cons (fun vs w1 g1 hd K hK => ?_) ?_
    · have e9 : vs 9 = .pointer (some ⟨D, 3, none⟩) := hd 9 (by kernel_rfl)
      simp only [putsT, Nat.zero_add, Nat.reduceAdd, List.getD_cons_zero, List.getD_cons_succ, Act.put, List.setIfInBounds_toArray, List.set_cons_zero, List.set_cons_succ, e9] at hK ⊢
      have c3 := (hA.grew g1).cell 3
      go_simp
      exact hK _ _ (Grew.refl _) rfl (fun h => by simp at h)
    refine GivesAll.cons (fun vs w1 g1 hd K hK => ?_) ?_
    · obtain ⟨b0_8, e8, r8_0⟩ := hd 8 (by kernel_rfl)
      have e10 : vs 10 = .slice a3 s.en.length a4 := hd 10 (by kernel_rfl)
      simp only [putsT, Nat.zero_add, Nat.reduceAdd, List.getD_cons_zero, List.getD_cons_succ, Act.put, List.setIfInBounds_toArray, List.set_cons_zero, List.set_cons_succ, e8, e10] at hK ⊢
      refine Ints.step_append_lit rfl (.tmp 30) (.tmp 32) rfl g1.size r8_0 (HB2.out.grew g1) (by rfl) (by rfl) hl2.out ?_
      intro v5 w5 h5 g5
      exact hK _ _ g5 h5 (fun h => by simp at h)
    refine GivesAll.cons (fun vs w1 g1 hd K hK => ?_) ?_
    · simp only [putsT, Nat.zero_add, Nat.reduceAdd, List.getD_cons_zero, List.getD_cons_succ, Act.put, List.setIfInBounds_toArray, List.set_cons_zero, List.set_cons_succ] at hK ⊢
      go_simp
      exact hK _ _ ((Grew.refl _).alloc _) ⟨_, rfl, Ints.Row.lit w1 _ g1.size #[] [] rfl (by decide) _ rfl 0 rfl⟩ (fun h => by simp at h)
    refine GivesAll.cons (fun vs w1 g1 hd K hK => ?_) ?_
    · simp only [putsT, Nat.zero_add, Nat.reduceAdd, List.getD_cons_zero, List.getD_cons_succ, Act.put, List.setIfInBounds_toArray, List.set_cons_zero, List.set_cons_succ] at hK ⊢
      go_simp
      exact hK _ _ (Grew.refl _) rfl (fun h => by simp at h)
    refine GivesAll.cons (fun vs w1 g1 hd K hK => ?_) ?_
    · have e13 : vs 13 = .pointer (some ⟨D, 4, none⟩) := hd 13 (by kernel_rfl)
      simp only [putsT, Nat.zero_add, Nat.reduceAdd, List.getD_cons_zero, List.getD_cons_succ, Act.put, List.setIfInBounds_toArray, List.set_cons_zero, List.set_cons_succ, e13] at hK ⊢
      have c4 := (hA.grew g1).cell 4
      go_simp
      exact hK _ _ (Grew.refl _) rfl (fun h => by simp at h)
    refine GivesAll.cons (fun vs w1 g1 hd K hK => ?_) ?_
    · obtain ⟨b0_12, e12, r12_0⟩ := hd 12 (by kernel_rfl)
      have e14 : vs 14 = .slice a5 s.th.length a6 := hd 14 (by kernel_rfl)
      simp only [putsT, Nat.zero_add, Nat.reduceAdd, List.getD_cons_zero, List.getD_cons_succ, Act.put, List.setIfInBounds_toArray, List.set_cons_zero, List.set_cons_succ, e12, e14] at hK ⊢
      refine Ints.step_append_lit rfl (.tmp 34) (.tmp 36) rfl g1.size r12_0 (HB3.out.grew g1) (by rfl) (by rfl) hl3.out ?_
      intro v5 w5 h5 g5
      exact hK _ _ g5 h5 (fun h => by simp at h)
    refine GivesAll.cons (fun vs w1 g1 hd K hK => ?_) ?_
    · have r3 : Ints.Row w1 w0.heap.size (vs 3) s.pr := hd 3 (by kernel_rfl)
      have e5 : vs 5 = .int .i64 s.n := hd 5 (by kernel_rfl)
      have e7 : vs 7 = .int .i64 s.k := hd 7 (by kernel_rfl)
      have r11 : Ints.Row w1 w0.heap.size (vs 11) s.en := hd 11 (by kernel_rfl)
      have r15 : Ints.Row w1 w0.heap.size (vs 15) s.th := hd 15 (by kernel_rfl)
      simp only [putsT, Nat.zero_add, Nat.reduceAdd, List.getD_cons_zero, List.getD_cons_succ, Act.put, List.setIfInBounds_toArray, List.set_cons_zero, List.set_cons_succ, e5, e7] at hK ⊢
      obtain ⟨t1, t2, q1⟩ := r3.shape HB1.out.ok
      obtain ⟨t3, t4, q2⟩ := r11.shape HB2.out.ok
      obtain ⟨t5, t6, q3⟩ := r15.shape HB3.out.ok
      simp only [q1, q2, q3] at hK ⊢
      go_simp
      exact hK _ _ (Grew.refl _) (by show _ = _; rw [q1, q2, q3]) (fun h => by simp at h)
    refine GivesAll.cons (fun vs w1 g1 hd K hK => ?_) ?_
    · simp only [putsT, Nat.zero_add, Nat.reduceAdd, List.getD_cons_zero, List.getD_cons_succ, Act.put, List.setIfInBounds_toArray, List.set_cons_zero, List.set_cons_succ] at hK ⊢
      go_simp
      exact hK _ _ ((Grew.refl _).alloc _) ⟨_, rfl, g1.size, Blk.new _ _ _ _ rfl⟩ (fun _ g hg => by simp only [leadsTo, Option.some.injEq] at hg; subst hg; exact Nat.le_refl _)
    exact GivesAll.nil
  intro vs wz gz hv hap
  obtain ⟨b0_0, e0, r0_0⟩ := hv 0 (by decide)
  have e1 : vs 1 = .pointer (some ⟨D, 0, none⟩) := hv 1 (by decide)
  have e2 : vs 2 = .slice a1 s.pr.length a2 := hv 2 (by decide)
  have r3 : Ints.Row wz w0.heap.size (vs 3) s.pr := hv 3 (by decide)
  have e4 : vs 4 = .pointer (some ⟨D, 1, none⟩) := hv 4 (by decide)
  have e5 : vs 5 = .int .i64 s.n := hv 5 (by decide)
  have e6 : vs 6 = .pointer (some ⟨D, 2, none⟩) := hv 6 (by decide)
  have e7 : vs 7 = .int .i64 s.k := hv 7 (by decide)
  obtain ⟨b0_8, e8, r8_0⟩ := hv 8 (by decide)
  have e9 : vs 9 = .pointer (some ⟨D, 3, none⟩) := hv 9 (by decide)
  have e10 : vs 10 = .slice a3 s.en.length a4 := hv 10 (by decide)
  have r11 : Ints.Row wz w0.heap.size (vs 11) s.en := hv 11 (by decide)
  obtain ⟨b0_12, e12, r12_0⟩ := hv 12 (by decide)
  have e13 : vs 13 = .pointer (some ⟨D, 4, none⟩) := hv 13 (by decide)
  have e14 : vs 14 = .slice a5 s.th.length a6 := hv 14 (by decide)
  have r15 : Ints.Row wz w0.heap.size (vs 15) s.th := hv 15 (by decide)
  have e16 : vs 16 = .agg #[vs 3, .int .i64 s.n, .int .i64 s.k, vs 11, vs 15] := hv 16 (by decide)
  obtain ⟨b0_17, e17, r17_0, r17_1⟩ := hv 17 (by decide)
  clear hv hap
  simp only [putsT, Nat.zero_add, Nat.reduceAdd, List.getD_cons_zero, List.getD_cons_succ, Act.put, List.setIfInBounds_toArray, List.set_cons_zero, List.set_cons_succ, List.drop_succ_cons, List.drop_zero, e0, e1, e2, e4, e5, e6, e7, e8, e9, e10, e12, e13, e14, e16, e17]
  clear e0 e1 e2 e4 e5 e6 e7 e8 e9 e10 e12 e13 e14 e16 e17
  obtain ⟨o1, o2, q1⟩ := r3.shape HB1.out.ok
  obtain ⟨o3, o4, q2⟩ := r11.shape HB2.out.ok
  obtain ⟨o5, o6, q3⟩ := r15.shape HB3.out.ok
  rw [q1, q2, q3]
  rw [q1] at r3
  rw [q2] at r11
  rw [q3] at r15
  clear q1 q2 q3 r0_0 r8_0 r12_0
  have kX := r17_1
  have hX := r17_0
  have hA1 := hA.grew gz
  have Gz := g0.trans gz
  generalize b0_17 = X at *
  clear r17_1 r17_0
  have y0 := kX.cell 0
  have y1 := kX.cell 1
  have y2 := kX.cell 2
  have y3 := kX.cell 3
  have y4 := kX.cell 4
  have f0 := kX.free 0
  have f1 := kX.free 1
  have f2 := kX.free 2
  have f3 := kX.free 3
  have f4 := kX.free 4
  go_upto_region 2 with fail
  clear y0 y1 y2 y3 y4 f0 f1 f2 f3 f4
  have kX1 := kX.set (o := 0) (.slice o1 s.pr.length o2)
  have r3_1 := r3.box kX (by decide) (o := 0) (.slice o1 s.pr.length o2)
  have r11_1 := r11.box kX (by decide) (o := 0) (.slice o1 s.pr.length o2)
  have r15_1 := r15.box kX (by decide) (o := 0) (.slice o1 s.pr.length o2)
  have kX2 := kX1.set (o := 1) (.int .i64 s.n)
  have r3_2 := r3_1.box kX1 (by decide) (o := 1) (.int .i64 s.n)
  have r11_2 := r11_1.box kX1 (by decide) (o := 1) (.int .i64 s.n)
  have r15_2 := r15_1.box kX1 (by decide) (o := 1) (.int .i64 s.n)
  have kX3 := kX2.set (o := 2) (.int .i64 s.k)
  have r3_3 := r3_2.box kX2 (by decide) (o := 2) (.int .i64 s.k)
  have r11_3 := r11_2.box kX2 (by decide) (o := 2) (.int .i64 s.k)
  have r15_3 := r15_2.box kX2 (by decide) (o := 2) (.int .i64 s.k)
  have kX4 := kX3.set (o := 3) (.slice o3 s.en.length o4)
  have r3_4 := r3_3.box kX3 (by decide) (o := 3) (.slice o3 s.en.length o4)
  have r11_4 := r11_3.box kX3 (by decide) (o := 3) (.slice o3 s.en.length o4)
  have r15_4 := r15_3.box kX3 (by decide) (o := 3) (.slice o3 s.en.length o4)
  have kX5 := kX4.set (o := 4) (.slice o5 s.th.length o6)
  have r3_5 := r3_4.box kX4 (by decide) (o := 4) (.slice o5 s.th.length o6)
  have r11_5 := r11_4.box kX4 (by decide) (o := 4) (.slice o5 s.th.length o6)
  have r15_5 := r15_4.box kX4 (by decide) (o := 4) (.slice o5 s.th.length o6)
  have D0' : Grew w0 (((((wz.setCell ⟨X, 0, none⟩ (.slice o1 s.pr.length o2)).setCell ⟨X, 1, none⟩ (.int .i64 s.n)).setCell ⟨X, 2, none⟩ (.int .i64 s.k)).setCell ⟨X, 3, none⟩ (.slice o3 s.en.length o4)).setCell ⟨X, 4, none⟩ (.slice o5 s.th.length o6)) := (((((gz.setCell (b := X) (o := 0) hX (.slice o1 s.pr.length o2)).setCell (b := X) (o := 1) hX (.int .i64 s.n)).setCell (b := X) (o := 2) hX (.int .i64 s.k)).setCell (b := X) (o := 3) hX (.slice o3 s.en.length o4)).setCell (b := X) (o := 4) hX (.slice o5 s.th.length o6))
  clear kX kX1 kX2 kX3 kX4 r3 r11 r15 r3_1 r3_2 r3_3 r3_4 r11_1 r11_2 r11_3 r11_4 r15_1 r15_2 r15_3 r15_4
  generalize (((((wz.setCell ⟨X, 0, none⟩ (.slice o1 s.pr.length o2)).setCell ⟨X, 1, none⟩ (.int .i64 s.n)).setCell ⟨X, 2, none⟩ (.int .i64 s.k)).setCell ⟨X, 3, none⟩ (.slice o3 s.en.length o4)).setCell ⟨X, 4, none⟩ (.slice o5 s.th.length o6)) = v0 at *
  replace kX5 : Blk v0 X #[.slice o1 s.pr.length o2, .int .i64 s.n, .int .i64 s.k, .slice o3 s.en.length o4, .slice o5 s.th.length o6] 24 := kX5
  have PO := Lib.hid (show Pl v0 (plV s o1 o2 o3 o4 o5 o6) s from ⟨⟨_, _, _, rfl, r3_5.buf HB1.out.ok, r11_5.buf HB2.out.ok, r15_5.buf HB3.out.ok⟩, HI.out.1, HI.out.2⟩)
  have HPv := Lib.hid (HP0.out.grew D0')
  have hAv := hA.grew D0'
  have G0 := g0.trans D0'
  clear r3_5 r11_5 r15_5 HP0 hA hA1 Gz gz D0 g0 HB1 HB2 HB3
  have HP0 := HPv
  have hA := hAv
  have kO := kX5
  clear HPv hAv kX5
  have D0 := Grew.refl v0
  generalize v0 = w0' at *
  have y0 := (kO.grew D0).cell 0
  have y1 := (kO.grew D0).cell 1
  have y2 := (kO.grew D0).cell 2
  have y3 := (kO.grew D0).cell 3
  have y4 := (kO.grew D0).cell 4
  go_wp2_with fail
  refine Calls.mono (RL.out _ _ (PO.out.grew D0)) ?_
  rintro e w1 ⟨b1, b2, b3, b4, b5, b6, rfl, hb, g1⟩
  have D1 := D0.trans g1
  clear y0 y1 y2 y3 y4
  go_upto_region 3 with fail
  have kb : Blk (w1.alloc (.cells #[.slice b1 sL.pr.length b2, .int .i64 sL.n, .int .i64 sL.k, .slice b3 sL.en.length b4, .slice b5 sL.th.length b6] 24)) w1.heap.size #[.slice b1 sL.pr.length b2, .int .i64 sL.n, .int .i64 sL.k, .slice b3 sL.en.length b4, .slice b5 sL.th.length b6] 24 := Blk.new _ _ _ _ rfl
  have D2 : Grew w0' (w1.alloc (.cells #[.slice b1 sL.pr.length b2, .int .i64 sL.n, .int .i64 sL.k, .slice b3 sL.en.length b4, .slice b5 sL.th.length b6] 24)) := D1.alloc _
  have Pb := Lib.hid (hb.out.grew ((Grew.refl w1).alloc (.cells #[.slice b1 sL.pr.length b2, .int .i64 sL.n, .int .i64 sL.k, .slice b3 sL.en.length b4, .slice b5 sL.th.length b6] 24)))
  have Sb : Grew w1 (w1.alloc (.cells #[.slice b1 sL.pr.length b2, .int .i64 sL.n, .int .i64 sL.k, .slice b3 sL.en.length b4, .slice b5 sL.th.length b6] 24)) := (Grew.refl w1).alloc _
  have lob : w0'.heap.size ≤ w1.heap.size := D1.size
  generalize (w1.alloc (.cells #[.slice b1 sL.pr.length b2, .int .i64 sL.n, .int .i64 sL.k, .slice b3 sL.en.length b4, .slice b5 sL.th.length b6] 24)) = w2 at *
  generalize w1.heap.size = Bb at *
  have y0 := (hA.grew D2).cell 0
  have y1 := (hA.grew D2).cell 1
  have y2 := (hA.grew D2).cell 2
  have y3 := (hA.grew D2).cell 3
  have y4 := (hA.grew D2).cell 4
  go_wp2_with fail
  refine Calls.mono (RL'.out _ _ (HP0.out.grew D2)) ?_
  rintro e w3 ⟨c1, c2, c3, c4, c5, c6, rfl, hc, g3⟩
  have D3 := D2.trans g3
  clear y0 y1 y2 y3 y4
  go_upto_region 4 with fail
  have kc : Blk (w3.alloc (.cells #[.slice c1 sL.pr.length c2, .int .i64 sL.n, .int .i64 sL.k, .slice c3 sL.en.length c4, .slice c5 sL.th.length c6] 24)) w3.heap.size #[.slice c1 sL.pr.length c2, .int .i64 sL.n, .int .i64 sL.k, .slice c3 sL.en.length c4, .slice c5 sL.th.length c6] 24 := Blk.new _ _ _ _ rfl
  have D4 : Grew w0' (w3.alloc (.cells #[.slice c1 sL.pr.length c2, .int .i64 sL.n, .int .i64 sL.k, .slice c3 sL.en.length c4, .slice c5 sL.th.length c6] 24)) := D3.alloc _
  have Pc := Lib.hid (hc.out.grew ((Grew.refl w3).alloc (.cells #[.slice c1 sL.pr.length c2, .int .i64 sL.n, .int .i64 sL.k, .slice c3 sL.en.length c4, .slice c5 sL.th.length c6] 24)))
  have Sc : Grew w3 (w3.alloc (.cells #[.slice c1 sL.pr.length c2, .int .i64 sL.n, .int .i64 sL.k, .slice c3 sL.en.length c4, .slice c5 sL.th.length c6] 24)) := (Grew.refl w3).alloc _
  have loc : w0'.heap.size ≤ w3.heap.size := D3.size
  generalize (w3.alloc (.cells #[.slice c1 sL.pr.length c2, .int .i64 sL.n, .int .i64 sL.k, .slice c3 sL.en.length c4, .slice c5 sL.th.length c6] 24)) = w4 at *
  generalize w3.heap.size = Bc at *
  have y0 := (kO.grew D4).cell 0
  have y1 := (kO.grew D4).cell 1
  have y2 := (kO.grew D4).cell 2
  have y3 := (kO.grew D4).cell 3
  have y4 := (kO.grew D4).cell 4
  go_wp2_with fail
  refine Calls.mono (RS.out _ _ (PO.out.grew D4)) ?_
  rintro e w5 ⟨d1, d2, d3, d4, d5, d6, rfl, hd, g5⟩
  have D5 := D4.trans g5
  clear y0 y1 y2 y3 y4
  go_upto_region 5 with fail
  have kd : Blk (w5.alloc (.cells #[.slice d1 sS.pr.length d2, .int .i64 sS.n, .int .i64 sS.k, .slice d3 sS.en.length d4, .slice d5 sS.th.length d6] 24)) w5.heap.size #[.slice d1 sS.pr.length d2, .int .i64 sS.n, .int .i64 sS.k, .slice d3 sS.en.length d4, .slice d5 sS.th.length d6] 24 := Blk.new _ _ _ _ rfl
  have D6 : Grew w0' (w5.alloc (.cells #[.slice d1 sS.pr.length d2, .int .i64 sS.n, .int .i64 sS.k, .slice d3 sS.en.length d4, .slice d5 sS.th.length d6] 24)) := D5.alloc _
  have Pd := Lib.hid (hd.out.grew ((Grew.refl w5).alloc (.cells #[.slice d1 sS.pr.length d2, .int .i64 sS.n, .int .i64 sS.k, .slice d3 sS.en.length d4, .slice d5 sS.th.length d6] 24)))
  have Sd : Grew w5 (w5.alloc (.cells #[.slice d1 sS.pr.length d2, .int .i64 sS.n, .int .i64 sS.k, .slice d3 sS.en.length d4, .slice d5 sS.th.length d6] 24)) := (Grew.refl w5).alloc _
  have lod : w0'.heap.size ≤ w5.heap.size := D5.size
  generalize (w5.alloc (.cells #[.slice d1 sS.pr.length d2, .int .i64 sS.n, .int .i64 sS.k, .slice d3 sS.en.length d4, .slice d5 sS.th.length d6] 24)) = w6 at *
  generalize w5.heap.size = Bd at *
  have y0 := (hA.grew D6).cell 0
  have y1 := (hA.grew D6).cell 1
  have y2 := (hA.grew D6).cell 2
  have y3 := (hA.grew D6).cell 3
  have y4 := (hA.grew D6).cell 4
  go_wp2_with fail
  refine Calls.mono (RS'.out _ _ (HP0.out.grew D6)) ?_
  rintro e w7 ⟨e1, e2, e3, e4, e5, e6, rfl, he, g7⟩
  have D7 := D6.trans g7
  clear y0 y1 y2 y3 y4
  go_upto_region 6 with fail
  have ke : Blk (w7.alloc (.cells #[.slice e1 sS.pr.length e2, .int .i64 sS.n, .int .i64 sS.k, .slice e3 sS.en.length e4, .slice e5 sS.th.length e6] 24)) w7.heap.size #[.slice e1 sS.pr.length e2, .int .i64 sS.n, .int .i64 sS.k, .slice e3 sS.en.length e4, .slice e5 sS.th.length e6] 24 := Blk.new _ _ _ _ rfl
  have D8 : Grew w0' (w7.alloc (.cells #[.slice e1 sS.pr.length e2, .int .i64 sS.n, .int .i64 sS.k, .slice e3 sS.en.length e4, .slice e5 sS.th.length e6] 24)) := D7.alloc _
  have Pe := Lib.hid (he.out.grew ((Grew.refl w7).alloc (.cells #[.slice e1 sS.pr.length e2, .int .i64 sS.n, .int .i64 sS.k, .slice e3 sS.en.length e4, .slice e5 sS.th.length e6] 24)))
  have Se : Grew w7 (w7.alloc (.cells #[.slice e1 sS.pr.length e2, .int .i64 sS.n, .int .i64 sS.k, .slice e3 sS.en.length e4, .slice e5 sS.th.length e6] 24)) := (Grew.refl w7).alloc _
  have loe : w0'.heap.size ≤ w7.heap.size := D7.size
  generalize (w7.alloc (.cells #[.slice e1 sS.pr.length e2, .int .i64 sS.n, .int .i64 sS.k, .slice e3 sS.en.length e4, .slice e5 sS.th.length e6] 24)) = w8 at *
  generalize w7.heap.size = Be at *
  have T3 := (g7.trans Se)
  have T2 := (g5.trans Sd).trans T3
  have T1 := (g3.trans Sc).trans T2
  have kb8 := kb.grew T1
  have kc8 := kc.grew T2
  have kd8 := kd.grew T3
  have Pb8 := Lib.hid (Pb.out.grew T1)
  have Pc8 := Lib.hid (Pc.out.grew T2)
  have Pd8 := Lib.hid (Pd.out.grew T3)
  clear T1 T2 T3 kb kc kd Pb Pc Pd
  have e0 : ∀ p : Int, (p == p) = true := fun p => by simp
  have e1 : ∀ p : Bool, (p == p) = true := fun p => by simp
  have y0 := kb8.cell 0
  have y1 := kb8.cell 1
  have y2 := kb8.cell 2
  have y3 := kb8.cell 3
  have y4 := kb8.cell 4
  have z0 := kc8.cell 0
  have z1 := kc8.cell 1
  have z2 := kc8.cell 2
  have z3 := kc8.cell 3
  have z4 := kc8.cell 4
  go_wp2_with fail
  refine Calls.mono (Same_c Pb8.out Pc8.out (Grew.refl w8)) ?_
  rintro e w9 ⟨rfl, g9⟩
  clear y0 y1 y2 y3 y4 z0 z1 z2 z3 z4
  have y0 := (kd8.grew g9).cell 0
  have y1 := (kd8.grew g9).cell 1
  have y2 := (kd8.grew g9).cell 2
  have y3 := (kd8.grew g9).cell 3
  have y4 := (kd8.grew g9).cell 4
  have z0 := (ke.grew g9).cell 0
  have z1 := (ke.grew g9).cell 1
  have z2 := (ke.grew g9).cell 2
  have z3 := (ke.grew g9).cell 3
  have z4 := (ke.grew g9).cell 4
  go_wp2_with fail
  refine Calls.mono (Same_c (Pd8.out.grew g9) (Pe.out.grew g9) (Grew.refl w9)) ?_
  rintro e w10 ⟨rfl, g10⟩
  clear y0 y1 y2 y3 y4 z0 z1 z2 z3 z4
  have D9 := (D8.trans g9).trans g10
  clear e0 e1 kb8 kc8 kd8 ke Pb8 Pc8 Pd8 Pe g9 g10 D8 D7 D6 D5 D4 D3 D2 D1
  go_upto_region 8 with fail
  refine region_deps 37 [some 96, some 97, some 98, some 99, some 100, some 101, some 102, some 103, some 104, some 105, some 106, some 107, some 108, some 109, some 110, some 111, some 112, some 113, some 114, some 115, some 116, some 117, some 118, some 119, some 120, some 121, some 122, some 123, some 124, some 125, some 126, some 127, some 128, some 129, some 130, some 131, some 10] [[], [], [], [], [], [], [], [], [], [], [], [], [], [], [], [], [], [], [], [], [], [], [], [], [], [], [], [], [], [], [], [], [], [], [], [], []] [] (lstR s sT a1 a2 a3 a4 a5 a6 o1 o2 o3 o4 o5 o6 l z cb) lstR_grew lstR_lt lstR_loc (Grew.refl w10) (by kernel_rfl) (by kernel_rfl) ?_ ?_
  · simp only [List.take_succ_cons, List.take_zero]
    refine GivesAll.cons (fun vs w1 g1 hd K hK => ?_) ?_
    · simp only [putsT, Nat.zero_add, Nat.reduceAdd, List.getD_cons_zero, List.getD_cons_succ, Act.put, List.setIfInBounds_toArray, List.set_cons_zero, List.set_cons_succ] at hK ⊢
      have y0 := ((kO.grew D9).grew g1).cell 0
      have y1 := ((kO.grew D9).grew g1).cell 1
      have y2 := ((kO.grew D9).grew g1).cell 2
      have y3 := ((kO.grew D9).grew g1).cell 3
      have y4 := ((kO.grew D9).grew g1).cell 4
      go_simp
      exact hK _ _ (Grew.refl _) rfl (fun h => by simp at h)
    refine GivesAll.cons (fun vs w1 g1 hd K hK => ?_) ?_
    · simp only [putsT, Nat.zero_add, Nat.reduceAdd, List.getD_cons_zero, List.getD_cons_succ, Act.put, List.setIfInBounds_toArray, List.set_cons_zero, List.set_cons_succ] at hK ⊢
      go_simp
      exact hK _ _ (Grew.refl _) rfl (fun h => by simp at h)
    refine GivesAll.cons (fun vs w1 g1 hd K hK => ?_) ?_
    · have e0 : vs 0 = plV s o1 o2 o3 o4 o5 o6 := hd 0 (by kernel_rfl)
      have e1 : vs 1 = .int .i64 l := hd 1 (by kernel_rfl)
      simp only [putsT, Nat.zero_add, Nat.reduceAdd, List.getD_cons_zero, List.getD_cons_succ, Act.put, List.setIfInBounds_toArray, List.set_cons_zero, List.set_cons_succ, e0, e1] at hK ⊢
      go_simp
      refine Calls.mono (RT.out _ _ (PO.out.grew (D9.trans g1))) ?_
      rintro e w5 ⟨c1, c2, c3, c4, c5, c6, rfl, h5, g5⟩
      exact hK _ _ g5 h5.out (fun h => by simp at h)
    refine GivesAll.cons (fun vs w1 g1 hd K hK => ?_) ?_
    · simp only [putsT, Nat.zero_add, Nat.reduceAdd, List.getD_cons_zero, List.getD_cons_succ, Act.put, List.setIfInBounds_toArray, List.set_cons_zero, List.set_cons_succ] at hK ⊢
      have y0 := ((hA.grew D9).grew g1).cell 0
      have y1 := ((hA.grew D9).grew g1).cell 1
      have y2 := ((hA.grew D9).grew g1).cell 2
      have y3 := ((hA.grew D9).grew g1).cell 3
      have y4 := ((hA.grew D9).grew g1).cell 4
      go_simp
      exact hK _ _ (Grew.refl _) rfl (fun h => by simp at h)
    refine GivesAll.cons (fun vs w1 g1 hd K hK => ?_) ?_
    · simp only [putsT, Nat.zero_add, Nat.reduceAdd, List.getD_cons_zero, List.getD_cons_succ, Act.put, List.setIfInBounds_toArray, List.set_cons_zero, List.set_cons_succ] at hK ⊢
      go_simp
      exact hK _ _ (Grew.refl _) rfl (fun h => by simp at h)
    refine GivesAll.cons (fun vs w1 g1 hd K hK => ?_) ?_
    · have e3 : vs 3 = plV s a1 a2 a3 a4 a5 a6 := hd 3 (by kernel_rfl)
      have e4 : vs 4 = .int .i64 l := hd 4 (by kernel_rfl)
      simp only [putsT, Nat.zero_add, Nat.reduceAdd, List.getD_cons_zero, List.getD_cons_succ, Act.put, List.setIfInBounds_toArray, List.set_cons_zero, List.set_cons_succ, e3, e4] at hK ⊢
      go_simp
      refine Calls.mono (RT'.out _ _ (HP0.out.grew (D9.trans g1))) ?_
      rintro e w5 ⟨c1, c2, c3, c4, c5, c6, rfl, h5, g5⟩
      exact hK _ _ g5 h5.out (fun h => by simp at h)
    refine GivesAll.cons (fun vs w1 g1 hd K hK => ?_) ?_
    · have r2 : Pl w1 (vs 2) sT := hd 2 (by kernel_rfl)
      have r5 : Pl w1 (vs 5) sT := hd 5 (by kernel_rfl)
      simp only [putsT, Nat.zero_add, Nat.reduceAdd, List.getD_cons_zero, List.getD_cons_succ, Act.put, List.setIfInBounds_toArray, List.set_cons_zero, List.set_cons_succ] at hK ⊢
      go_simp
      refine Calls.mono (Same_c r2 r5 (Grew.refl w1)) ?_
      rintro e w5 ⟨rfl, g5⟩
      exact hK _ _ g5 rfl (fun h => by simp at h)
    refine GivesAll.cons (fun vs w1 g1 hd K hK => ?_) ?_
    · have e6 : vs 6 = .bool true := hd 6 (by kernel_rfl)
      simp only [putsT, Nat.zero_add, Nat.reduceAdd, List.getD_cons_zero, List.getD_cons_succ, Act.put, List.setIfInBounds_toArray, List.set_cons_zero, List.set_cons_succ, e6] at hK ⊢
      go_simp
      exact hK _ _ (Grew.refl _) rfl (fun h => by simp at h)
    refine GivesAll.cons (fun vs w1 g1 hd K hK => ?_) ?_
    · have e7 : vs 7 = .bool true := hd 7 (by kernel_rfl)
      simp only [putsT, Nat.zero_add, Nat.reduceAdd, List.getD_cons_zero, List.getD_cons_succ, Act.put, List.setIfInBounds_toArray, List.set_cons_zero, List.set_cons_succ, e7] at hK ⊢
      have y0 := ((kO.grew D9).grew g1).cell 0
      have y1 := ((kO.grew D9).grew g1).cell 1
      have y2 := ((kO.grew D9).grew g1).cell 2
      have y3 := ((kO.grew D9).grew g1).cell 3
      have y4 := ((kO.grew D9).grew g1).cell 4
      go_simp
      exact hK _ _ (Grew.refl _) rfl (fun h => by simp at h)
    refine GivesAll.cons (fun vs w1 g1 hd K hK => ?_) ?_
    · have e7 : vs 7 = .bool true := hd 7 (by kernel_rfl)
      simp only [putsT, Nat.zero_add, Nat.reduceAdd, List.getD_cons_zero, List.getD_cons_succ, Act.put, List.setIfInBounds_toArray, List.set_cons_zero, List.set_cons_succ, e7] at hK ⊢
      go_simp
      exact hK _ _ (Grew.refl _) rfl (fun h => by simp at h)
    refine GivesAll.cons (fun vs w1 g1 hd K hK => ?_) ?_
    · have e7 : vs 7 = .bool true := hd 7 (by kernel_rfl)
      have e8 : vs 8 = plV s o1 o2 o3 o4 o5 o6 := hd 8 (by kernel_rfl)
      have e9 : vs 9 = .int .i64 l := hd 9 (by kernel_rfl)
      simp only [putsT, Nat.zero_add, Nat.reduceAdd, List.getD_cons_zero, List.getD_cons_succ, Act.put, List.setIfInBounds_toArray, List.set_cons_zero, List.set_cons_succ, e7, e8, e9] at hK ⊢
      go_simp
      refine Calls.mono (RB.out _ _ (PO.out.grew (D9.trans g1))) ?_
      rintro e w5 ⟨rfl, g5⟩
      exact hK _ _ g5 rfl (fun h => by simp at h)
    refine GivesAll.cons (fun vs w1 g1 hd K hK => ?_) ?_
    · have e7 : vs 7 = .bool true := hd 7 (by kernel_rfl)
      simp only [putsT, Nat.zero_add, Nat.reduceAdd, List.getD_cons_zero, List.getD_cons_succ, Act.put, List.setIfInBounds_toArray, List.set_cons_zero, List.set_cons_succ, e7] at hK ⊢
      have y0 := ((hA.grew D9).grew g1).cell 0
      have y1 := ((hA.grew D9).grew g1).cell 1
      have y2 := ((hA.grew D9).grew g1).cell 2
      have y3 := ((hA.grew D9).grew g1).cell 3
      have y4 := ((hA.grew D9).grew g1).cell 4
      go_simp
      exact hK _ _ (Grew.refl _) rfl (fun h => by simp at h)
    refine GivesAll.cons (fun vs w1 g1 hd K hK => ?_) ?_
    · have e7 : vs 7 = .bool true := hd 7 (by kernel_rfl)
      simp only [putsT, Nat.zero_add, Nat.reduceAdd, List.getD_cons_zero, List.getD_cons_succ, Act.put, List.setIfInBounds_toArray, List.set_cons_zero, List.set_cons_succ, e7] at hK ⊢
      go_simp
      exact hK _ _ (Grew.refl _) rfl (fun h => by simp at h)
    refine GivesAll.cons (fun vs w1 g1 hd K hK => ?_) ?_
    · have e7 : vs 7 = .bool true := hd 7 (by kernel_rfl)
      have e11 : vs 11 = plV s a1 a2 a3 a4 a5 a6 := hd 11 (by kernel_rfl)
      have e12 : vs 12 = .int .i64 l := hd 12 (by kernel_rfl)
      simp only [putsT, Nat.zero_add, Nat.reduceAdd, List.getD_cons_zero, List.getD_cons_succ, Act.put, List.setIfInBounds_toArray, List.set_cons_zero, List.set_cons_succ, e7, e11, e12] at hK ⊢
      go_simp
      refine Calls.mono (RB'.out _ _ (HP0.out.grew (D9.trans g1))) ?_
      rintro e w5 ⟨rfl, g5⟩
      exact hK _ _ g5 rfl (fun h => by simp at h)
    refine GivesAll.cons (fun vs w1 g1 hd K hK => ?_) ?_
    · have e7 : vs 7 = .bool true := hd 7 (by kernel_rfl)
      have e10 : vs 10 = .int .i64 z := hd 10 (by kernel_rfl)
      have e13 : vs 13 = .int .i64 z := hd 13 (by kernel_rfl)
      simp only [putsT, Nat.zero_add, Nat.reduceAdd, List.getD_cons_zero, List.getD_cons_succ, Act.put, List.setIfInBounds_toArray, List.set_cons_zero, List.set_cons_succ, e7, e10, e13] at hK ⊢
      have e9 : (z == z) = true := by simp
      go_simp
      exact hK _ _ (Grew.refl _) rfl (fun h => by simp at h)
    refine GivesAll.cons (fun vs w1 g1 hd K hK => ?_) ?_
    · have e7 : vs 7 = .bool true := hd 7 (by kernel_rfl)
      have e14 : vs 14 = .bool true := hd 14 (by kernel_rfl)
      simp only [putsT, Nat.zero_add, Nat.reduceAdd, List.getD_cons_zero, List.getD_cons_succ, Act.put, List.setIfInBounds_toArray, List.set_cons_zero, List.set_cons_succ, e7, e14] at hK ⊢
      go_simp
      exact hK _ _ (Grew.refl _) rfl (fun h => by simp at h)
    refine GivesAll.cons (fun vs w1 g1 hd K hK => ?_) ?_
    · have e15 : vs 15 = .bool true := hd 15 (by kernel_rfl)
      simp only [putsT, Nat.zero_add, Nat.reduceAdd, List.getD_cons_zero, List.getD_cons_succ, Act.put, List.setIfInBounds_toArray, List.set_cons_zero, List.set_cons_succ, e15] at hK ⊢
      go_simp
      exact hK _ _ (Grew.refl _) rfl (fun h => by simp at h)
    refine GivesAll.cons (fun vs w1 g1 hd K hK => ?_) ?_
    · have e16 : vs 16 = .bool true := hd 16 (by kernel_rfl)
      simp only [putsT, Nat.zero_add, Nat.reduceAdd, List.getD_cons_zero, List.getD_cons_succ, Act.put, List.setIfInBounds_toArray, List.set_cons_zero, List.set_cons_succ, e16] at hK ⊢
      have y0 := ((kO.grew D9).grew g1).cell 0
      have y1 := ((kO.grew D9).grew g1).cell 1
      have y2 := ((kO.grew D9).grew g1).cell 2
      have y3 := ((kO.grew D9).grew g1).cell 3
      have y4 := ((kO.grew D9).grew g1).cell 4
      go_simp
      exact hK _ _ (Grew.refl _) rfl (fun h => by simp at h)
    refine GivesAll.cons (fun vs w1 g1 hd K hK => ?_) ?_
    · have e16 : vs 16 = .bool true := hd 16 (by kernel_rfl)
      have e17 : vs 17 = plV s o1 o2 o3 o4 o5 o6 := hd 17 (by kernel_rfl)
      simp only [putsT, Nat.zero_add, Nat.reduceAdd, List.getD_cons_zero, List.getD_cons_succ, Act.put, List.setIfInBounds_toArray, List.set_cons_zero, List.set_cons_succ, e16, e17] at hK ⊢
      go_simp
      refine Calls.mono (RC.out _ _ (PO.out.grew (D9.trans g1))) ?_
      rintro e w5 ⟨rfl, g5⟩
      exact hK _ _ g5 rfl (fun h => by simp at h)
    refine GivesAll.cons (fun vs w1 g1 hd K hK => ?_) ?_
    · have e16 : vs 16 = .bool true := hd 16 (by kernel_rfl)
      simp only [putsT, Nat.zero_add, Nat.reduceAdd, List.getD_cons_zero, List.getD_cons_succ, Act.put, List.setIfInBounds_toArray, List.set_cons_zero, List.set_cons_succ, e16] at hK ⊢
      have y0 := ((hA.grew D9).grew g1).cell 0
      have y1 := ((hA.grew D9).grew g1).cell 1
      have y2 := ((hA.grew D9).grew g1).cell 2
      have y3 := ((hA.grew D9).grew g1).cell 3
      have y4 := ((hA.grew D9).grew g1).cell 4
      go_simp
      exact hK _ _ (Grew.refl _) rfl (fun h => by simp at h)
    refine GivesAll.cons (fun vs w1 g1 hd K hK => ?_) ?_
    · have e16 : vs 16 = .bool true := hd 16 (by kernel_rfl)
      have e19 : vs 19 = plV s a1 a2 a3 a4 a5 a6 := hd 19 (by kernel_rfl)
      simp only [putsT, Nat.zero_add, Nat.reduceAdd, List.getD_cons_zero, List.getD_cons_succ, Act.put, List.setIfInBounds_toArray, List.set_cons_zero, List.set_cons_succ, e16, e19] at hK ⊢
      go_simp
      refine Calls.mono (RC'.out _ _ (HP0.out.grew (D9.trans g1))) ?_
      rintro e w5 ⟨rfl, g5⟩
      exact hK _ _ g5 rfl (fun h => by simp at h)
    refine GivesAll.cons (fun vs w1 g1 hd K hK => ?_) ?_
    · have e16 : vs 16 = .bool true := hd 16 (by kernel_rfl)
      have e18 : vs 18 = .bool cb := hd 18 (by kernel_rfl)
      have e20 : vs 20 = .bool cb := hd 20 (by kernel_rfl)
      simp only [putsT, Nat.zero_add, Nat.reduceAdd, List.getD_cons_zero, List.getD_cons_succ, Act.put, List.setIfInBounds_toArray, List.set_cons_zero, List.set_cons_succ, e16, e18, e20] at hK ⊢
      have e9 : (cb == cb) = true := by simp
      go_simp
      exact hK _ _ (Grew.refl _) rfl (fun h => by simp at h)
    refine GivesAll.cons (fun vs w1 g1 hd K hK => ?_) ?_
    · have e16 : vs 16 = .bool true := hd 16 (by kernel_rfl)
      have e21 : vs 21 = .bool true := hd 21 (by kernel_rfl)
      simp only [putsT, Nat.zero_add, Nat.reduceAdd, List.getD_cons_zero, List.getD_cons_succ, Act.put, List.setIfInBounds_toArray, List.set_cons_zero, List.set_cons_succ, e16, e21] at hK ⊢
      go_simp
      exact hK _ _ (Grew.refl _) rfl (fun h => by simp at h)
    refine GivesAll.cons (fun vs w1 g1 hd K hK => ?_) ?_
    · have e22 : vs 22 = .bool true := hd 22 (by kernel_rfl)
      simp only [putsT, Nat.zero_add, Nat.reduceAdd, List.getD_cons_zero, List.getD_cons_succ, Act.put, List.setIfInBounds_toArray, List.set_cons_zero, List.set_cons_succ, e22] at hK ⊢
      go_simp
      exact hK _ _ (Grew.refl _) rfl (fun h => by simp at h)
    refine GivesAll.cons (fun vs w1 g1 hd K hK => ?_) ?_
    · have e23 : vs 23 = .bool true := hd 23 (by kernel_rfl)
      simp only [putsT, Nat.zero_add, Nat.reduceAdd, List.getD_cons_zero, List.getD_cons_succ, Act.put, List.setIfInBounds_toArray, List.set_cons_zero, List.set_cons_succ, e23] at hK ⊢
      go_simp
      refine Calls.mono (new_a w1) ?_
      rintro e w5 ⟨c1, c2, c3, c4, c5, c6, rfl, h5, g5⟩
      exact hK _ _ g5 h5.out (fun h => by simp at h)
    refine GivesAll.cons (fun vs w1 g1 hd K hK => ?_) ?_
    · have e23 : vs 23 = .bool true := hd 23 (by kernel_rfl)
      simp only [putsT, Nat.zero_add, Nat.reduceAdd, List.getD_cons_zero, List.getD_cons_succ, Act.put, List.setIfInBounds_toArray, List.set_cons_zero, List.set_cons_succ, e23] at hK ⊢
      go_simp
      refine Calls.mono (refNew_a w1) ?_
      rintro e w5 ⟨c1, c2, c3, c4, c5, c6, rfl, h5, g5⟩
      exact hK _ _ g5 h5.out (fun h => by simp at h)
    refine GivesAll.cons (fun vs w1 g1 hd K hK => ?_) ?_
    · have e23 : vs 23 = .bool true := hd 23 (by kernel_rfl)
      have r24 : Pl w1 (vs 24) newV.ps := hd 24 (by kernel_rfl)
      have r25 : Pl w1 (vs 25) newV.ps := hd 25 (by kernel_rfl)
      simp only [putsT, Nat.zero_add, Nat.reduceAdd, List.getD_cons_zero, List.getD_cons_succ, Act.put, List.setIfInBounds_toArray, List.set_cons_zero, List.set_cons_succ, e23] at hK ⊢
      go_simp
      refine Calls.mono (Same_c r24 r25 (Grew.refl w1)) ?_
      rintro e w5 ⟨rfl, g5⟩
      exact hK _ _ g5 rfl (fun h => by simp at h)
    refine GivesAll.cons (fun vs w1 g1 hd K hK => ?_) ?_
    · have e23 : vs 23 = .bool true := hd 23 (by kernel_rfl)
      have e26 : vs 26 = .bool true := hd 26 (by kernel_rfl)
      simp only [putsT, Nat.zero_add, Nat.reduceAdd, List.getD_cons_zero, List.getD_cons_succ, Act.put, List.setIfInBounds_toArray, List.set_cons_zero, List.set_cons_succ, e23, e26] at hK ⊢
      go_simp
      exact hK _ _ (Grew.refl _) rfl (fun h => by simp at h)
    refine GivesAll.cons (fun vs w1 g1 hd K hK => ?_) ?_
    · have e27 : vs 27 = .bool true := hd 27 (by kernel_rfl)
      simp only [putsT, Nat.zero_add, Nat.reduceAdd, List.getD_cons_zero, List.getD_cons_succ, Act.put, List.setIfInBounds_toArray, List.set_cons_zero, List.set_cons_succ, e27] at hK ⊢
      go_simp
      exact hK _ _ (Grew.refl _) rfl (fun h => by simp at h)
    refine GivesAll.cons (fun vs w1 g1 hd K hK => ?_) ?_
    · have e28 : vs 28 = .bool true := hd 28 (by kernel_rfl)
      simp only [putsT, Nat.zero_add, Nat.reduceAdd, List.getD_cons_zero, List.getD_cons_succ, Act.put, List.setIfInBounds_toArray, List.set_cons_zero, List.set_cons_succ, e28] at hK ⊢
      have y0 := ((kO.grew D9).grew g1).cell 0
      have y1 := ((kO.grew D9).grew g1).cell 1
      have y2 := ((kO.grew D9).grew g1).cell 2
      have y3 := ((kO.grew D9).grew g1).cell 3
      have y4 := ((kO.grew D9).grew g1).cell 4
      go_simp
      exact hK _ _ (Grew.refl _) rfl (fun h => by simp at h)
    refine GivesAll.cons (fun vs w1 g1 hd K hK => ?_) ?_
    · have e28 : vs 28 = .bool true := hd 28 (by kernel_rfl)
      simp only [putsT, Nat.zero_add, Nat.reduceAdd, List.getD_cons_zero, List.getD_cons_succ, Act.put, List.setIfInBounds_toArray, List.set_cons_zero, List.set_cons_succ, e28] at hK ⊢
      have y0 := ((hA.grew D9).grew g1).cell 0
      have y1 := ((hA.grew D9).grew g1).cell 1
      have y2 := ((hA.grew D9).grew g1).cell 2
      have y3 := ((hA.grew D9).grew g1).cell 3
      have y4 := ((hA.grew D9).grew g1).cell 4
      go_simp
      exact hK _ _ (Grew.refl _) rfl (fun h => by simp at h)
    refine GivesAll.cons (fun vs w1 g1 hd K hK => ?_) ?_
    · have e28 : vs 28 = .bool true := hd 28 (by kernel_rfl)
      have e29 : vs 29 = plV s o1 o2 o3 o4 o5 o6 := hd 29 (by kernel_rfl)
      have e30 : vs 30 = plV s a1 a2 a3 a4 a5 a6 := hd 30 (by kernel_rfl)
      simp only [putsT, Nat.zero_add, Nat.reduceAdd, List.getD_cons_zero, List.getD_cons_succ, Act.put, List.setIfInBounds_toArray, List.set_cons_zero, List.set_cons_succ, e28, e29, e30] at hK ⊢
      go_simp
      refine Calls.mono (Same_c (PO.out.grew (D9.trans g1)) (HP0.out.grew (D9.trans g1)) (Grew.refl w1)) ?_
      rintro e w5 ⟨rfl, g5⟩
      exact hK _ _ g5 rfl (fun h => by simp at h)
    refine GivesAll.cons (fun vs w1 g1 hd K hK => ?_) ?_
    · have e28 : vs 28 = .bool true := hd 28 (by kernel_rfl)
      have e31 : vs 31 = .bool true := hd 31 (by kernel_rfl)
      simp only [putsT, Nat.zero_add, Nat.reduceAdd, List.getD_cons_zero, List.getD_cons_succ, Act.put, List.setIfInBounds_toArray, List.set_cons_zero, List.set_cons_succ, e28, e31] at hK ⊢
      go_simp
      exact hK _ _ (Grew.refl _) rfl (fun h => by simp at h)
    refine GivesAll.cons (fun vs w1 g1 hd K hK => ?_) ?_
    · have e32 : vs 32 = .bool true := hd 32 (by kernel_rfl)
      simp only [putsT, Nat.zero_add, Nat.reduceAdd, List.getD_cons_zero, List.getD_cons_succ, Act.put, List.setIfInBounds_toArray, List.set_cons_zero, List.set_cons_succ, e32] at hK ⊢
      go_simp
      exact hK _ _ (Grew.refl _) rfl (fun h => by simp at h)
    refine GivesAll.cons (fun vs w1 g1 hd K hK => ?_) ?_
    · have e33 : vs 33 = .bool true := hd 33 (by kernel_rfl)
      simp only [putsT, Nat.zero_add, Nat.reduceAdd, List.getD_cons_zero, List.getD_cons_succ, Act.put, List.setIfInBounds_toArray, List.set_cons_zero, List.set_cons_succ, e33] at hK ⊢
      go_simp
      refine Calls.mono (heads_c (Grew.refl w1)) ?_
      rintro e w5 ⟨rfl, g5⟩
      exact hK _ _ g5 rfl (fun h => by simp at h)
    refine GivesAll.cons (fun vs w1 g1 hd K hK => ?_) ?_
    · have e33 : vs 33 = .bool true := hd 33 (by kernel_rfl)
      have e34 : vs 34 = .bool true := hd 34 (by kernel_rfl)
      simp only [putsT, Nat.zero_add, Nat.reduceAdd, List.getD_cons_zero, List.getD_cons_succ, Act.put, List.setIfInBounds_toArray, List.set_cons_zero, List.set_cons_succ, e33, e34] at hK ⊢
      go_simp
      exact hK _ _ (Grew.refl _) rfl (fun h => by simp at h)
    refine GivesAll.cons (fun vs w1 g1 hd K hK => ?_) ?_
    · have e35 : vs 35 = .bool true := hd 35 (by kernel_rfl)
      simp only [putsT, Nat.zero_add, Nat.reduceAdd, List.getD_cons_zero, List.getD_cons_succ, Act.put, List.setIfInBounds_toArray, List.set_cons_zero, List.set_cons_succ, e35] at hK ⊢
      go_simp
      exact hK _ _ (Grew.refl _) rfl (fun h => by simp at h)
    exact GivesAll.nil
  intro vs wz gz hv hap
  have e0 : vs 0 = plV s o1 o2 o3 o4 o5 o6 := hv 0 (by decide)
  have e1 : vs 1 = .int .i64 l := hv 1 (by decide)
  have r2 : Pl wz (vs 2) sT := hv 2 (by decide)
  have e3 : vs 3 = plV s a1 a2 a3 a4 a5 a6 := hv 3 (by decide)
  have e4 : vs 4 = .int .i64 l := hv 4 (by decide)
  have r5 : Pl wz (vs 5) sT := hv 5 (by decide)
  have e6 : vs 6 = .bool true := hv 6 (by decide)
  have e7 : vs 7 = .bool true := hv 7 (by decide)
  have e8 : vs 8 = plV s o1 o2 o3 o4 o5 o6 := hv 8 (by decide)
  have e9 : vs 9 = .int .i64 l := hv 9 (by decide)
  have e10 : vs 10 = .int .i64 z := hv 10 (by decide)
  have e11 : vs 11 = plV s a1 a2 a3 a4 a5 a6 := hv 11 (by decide)
  have e12 : vs 12 = .int .i64 l := hv 12 (by decide)
  have e13 : vs 13 = .int .i64 z := hv 13 (by decide)
  have e14 : vs 14 = .bool true := hv 14 (by decide)
  have e15 : vs 15 = .bool true := hv 15 (by decide)
  have e16 : vs 16 = .bool true := hv 16 (by decide)
  have e17 : vs 17 = plV s o1 o2 o3 o4 o5 o6 := hv 17 (by decide)
  have e18 : vs 18 = .bool cb := hv 18 (by decide)
  have e19 : vs 19 = plV s a1 a2 a3 a4 a5 a6 := hv 19 (by decide)
  have e20 : vs 20 = .bool cb := hv 20 (by decide)
  have e21 : vs 21 = .bool true := hv 21 (by decide)
  have e22 : vs 22 = .bool true := hv 22 (by decide)
  have e23 : vs 23 = .bool true := hv 23 (by decide)
  have r24 : Pl wz (vs 24) newV.ps := hv 24 (by decide)
  have r25 : Pl wz (vs 25) newV.ps := hv 25 (by decide)
  have e26 : vs 26 = .bool true := hv 26 (by decide)
  have e27 : vs 27 = .bool true := hv 27 (by decide)
  have e28 : vs 28 = .bool true := hv 28 (by decide)
  have e29 : vs 29 = plV s o1 o2 o3 o4 o5 o6 := hv 29 (by decide)
  have e30 : vs 30 = plV s a1 a2 a3 a4 a5 a6 := hv 30 (by decide)
  have e31 : vs 31 = .bool true := hv 31 (by decide)
  have e32 : vs 32 = .bool true := hv 32 (by decide)
  have e33 : vs 33 = .bool true := hv 33 (by decide)
  have e34 : vs 34 = .bool true := hv 34 (by decide)
  have e35 : vs 35 = .bool true := hv 35 (by decide)
  have e36 : vs 36 = .bool true := hv 36 (by decide)
  clear hv hap
  simp only [putsT, Nat.zero_add, Nat.reduceAdd, List.getD_cons_zero, List.getD_cons_succ, Act.put, List.setIfInBounds_toArray, List.set_cons_zero, List.set_cons_succ, List.drop_succ_cons, List.drop_zero, e0, e1, e3, e4, e6, e7, e8, e9, e10, e11, e12, e13, e14, e15, e16, e17, e18, e19, e20, e21, e22, e23, e26, e27, e28, e29, e30, e31, e32, e33, e34, e35, e36]
  clear e0 e1 e3 e4 e6 e7 e8 e9 e10 e11 e12 e13 e14 e15 e16 e17 e18 e19 e20 e21 e22 e23 e26 e27 e28 e29 e30 e31 e32 e33 e34 e35 e36
  have DZ := D9.trans gz
  go_wp2_with fail
  go_ret
  exact ⟨rfl, G0.trans DZ⟩

theorem walk (s : PS) (a1 : Option Addr) (a2 : Nat) (a3 : Option Addr) (a4 : Nat) (a5 : Option Addr) (a6 : Nat) (l : Int) (_hl : -9223372036854775808 ≤ l ∧ l ≤ 9223372036854775807) (f : Int) (_hf : 0 ≤ f ∧ f < 18446744073709551616) (q : Int) (_hq : -9223372036854775808 ≤ q ∧ q ≤ 9223372036854775807) (x : Int) (hx : 0 ≤ x ∧ x < 18446744073709551616) (W : World) (hP : Pl W (plV s a1 a2 a3 a4 a5 a6) s) (hf : s.Fits) :
    Calls Try.prog 4 #[plV s a1 a2 a3 a4 a5 a6, .int .i64 l, .int .u64 f, .int .i64 q, .int .u64 x] W fun e w' => e = .returned (.bool true) ∧ Below W.heap.size W w' :=
  walk_with s (ldS s f q) (stS s f q x) (setS s l) a1 a2 a3 a4 a5 a6 l f q x (ldY s f q) (bestS s l) (!badB s f q) (chk s) W hP hf
    (load_a hf rfl rfl rfl) (refLoad_a rfl rfl rfl) (store_a hf hx.1 hx.2 rfl rfl) (refStore_a hx.1 hx.2 rfl rfl) (set_a hf rfl) (refSet_a rfl) (best_a rfl) (refBest_a rfl) (check_a rfl) (refCheck_a rfl)
set_option maxRecDepth 100000 in
theorem lifted (os : Os) (started : os.Started) (H : Type) (enc : TypeId × Value → H) :
    ReturnsInHanded {} Try.checked os 4 .any (Rows.plicDoesSpec.pre6 enc Try.prog Try.f4 Rows.plicDoesRow.domain false) (Rows.plicDoesSpec.post enc Try.prog Try.f4 false true false false) := by
  refine returnsInHanded_of_change_sized (C := Try.checked) own started (by kernel_rfl) Try.func4
    (ChangeSpec.witness6 (enc := enc) (C := Try.checked) false ⟨#[], #[.agg #[.slice none 0 0, .int .i64 0, .int .i64 0, .slice none 0 0, .slice none 0 0], .int .i64 0, .int .u64 0, .int .i64 0, .int .u64 0], []⟩ 8 (by kernel_rfl) (by kernel_rfl) (by kernel_rfl) (by kernel_rfl)) ?_
  intro W base args ds gs before hval0 hW _ hz0 _
  have hval : ∀ (j : Nat) t v, Try.f4.params[j]? = some t → args[j]? = some v → Value.okWide Try.prog W .any base t v := hval0
  have hW' := hW
  obtain ⟨p, q, hA0, hV, rfl, hfz, hnd⟩ := hW
  have hA : DataW.TrodAll enc Try.prog W 0 (fun _ => true) true Try.f4.params.toList args.toList ds p := hA0
  rw [Try.params4] at hA hval
  obtain ⟨v0, vs0, d0, ds0, p0, q0, hargs, rfl, rfl, h0, r'0⟩ := trodAll_cons hA
  obtain ⟨v1, vs1, d1, ds1, p1, q1, rfl, rfl, rfl, h1, r'1⟩ := trodAll_cons r'0
  obtain ⟨v2, vs2, d2, ds2, p2, q2, rfl, rfl, rfl, h2, r'2⟩ := trodAll_cons r'1
  obtain ⟨v3, vs3, d3, ds3, p3, q3, rfl, rfl, rfl, h3, r'3⟩ := trodAll_cons r'2
  obtain ⟨v4, vs4, d4, ds4, p4, q4, rfl, rfl, rfl, h4, r'4⟩ := trodAll_cons r'3
  obtain ⟨rfl, rfl, rfl⟩ := trodAll_nil r'4
  obtain rfl : args = #[v0, v1, v2, v3, v4] := by cases args; simp_all
  obtain ⟨s0, pa0, pc0, qa0, qc0, ra0, rc0, rfl, k0, f0⟩ := open_plic (hval 0 24 v0 rfl rfl) h0
  have fits0 := f0 (fun m hm => by simpa using List.all_eq_true.1 hz0 _ (DataW.weights_mem_each (j := 0) (t := 24) rfl rfl m hm))
  obtain ⟨a1, rfl, rfl, rfl, w1⟩ := open_int Try.underlying3 (hval 1 3 v1 rfl rfl) h1
  obtain ⟨a2, rfl, rfl, rfl, w2⟩ := open_int Try.underlying25 (hval 2 25 v2 rfl rfl) h2
  obtain ⟨a3, rfl, rfl, rfl, w3⟩ := open_int Try.underlying3 (hval 3 3 v3 rfl rfl) h3
  obtain ⟨a4, rfl, rfl, rfl, w4⟩ := open_int Try.underlying25 (hval 4 25 v4 rfl rfl) h4
  refine (walk s0 pa0 pc0 qa0 qc0 ra0 rc0 a1 (wf_i64 w1) a2 (wf_u64 w2) a3 (wf_i64 w3) a4 (wf_u64 w4) W k0 fits0).mono fun e W' ⟨he, hb⟩ => ?_
  subst he
  exact ⟨_, rfl, law_post hW' rfl rfl laid (by kernel_rfl) rfl Try.underlying4 hb⟩

theorem over : Rows.plicDoesRow.holds Try.pinned (OpenSpec.ofChange Rows.plicDoesSpec) :=
  OpenClaim.holds_of_wide 4 Try.f4 rfl rfl rfl rfl rfl rfl rfl ⟨rfl, rfl, rfl, rfl, rfl⟩ rfl rfl rfl rfl rfl (by kernel_rfl) Try.func4 (by kernel_rfl)
    (of_decide_eq_true (by kernel_rfl)) (by unfold Func.isWrapper; first | (rw [if_pos (by decide +kernel)]; kernel_rfl) | (rw [if_neg (by decide +kernel)]; exact ⟨rfl, rfl⟩))
    (fun os started H enc _ => lifted os started H enc)

theorem proved : Rows.PlicDoesSaid := over
#print axioms proved
end Go.Proofs.Ytpanecflmoebiaa.plicDoes
