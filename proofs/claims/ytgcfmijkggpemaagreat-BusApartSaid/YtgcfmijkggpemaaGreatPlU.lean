/-
  Answers of package plic, as the laws about it walk with them: of every controller, right or not.
-/
import Derived.Test.YtgcfmijkggpemaaGreatPlT
set_option maxRecDepth 4000
set_option linter.unusedVariables false
set_option linter.unusedSimpArgs false
namespace Go.Proofs.YtgcfmijkggpemaaGreat
open Go.RowKit

/-- f answers just r, making memory at most. -/
def Ans (f : FuncId) (args : Array Value) (r : Value) (w : World) : Prop :=
  Calls Tryz.prog f args w fun e w' => e = .returned r ∧ Grew w w'
/-- f answers r of a controller's value that reads as s. -/
def AnsP (f : FuncId) (args : Array Value) (r : Value → Value) (s : PS) (w : World) : Prop :=
  Calls Tryz.prog f args w fun e w' => ∃ a1 a2 a3 a4 a5 a6, e = .returned (r (plV s a1 a2 a3 a4 a5 a6)) ∧ Hid (Pl w' (plV s a1 a2 a3 a4 a5 a6) s) ∧ Grew w w'
/-- The same, the rows made since. -/
def plAnsR (f : FuncId) (args : Array Value) (r : Value → Value) (s : PS) (w : World) : Prop :=
  Calls Tryz.prog f args w fun e w' => ∃ a1 a2 a3 a4 a5 a6, e = .returned (r (plV s a1 a2 a3 a4 a5 a6)) ∧ Hid (Plr w' w.heap.size (plV s a1 a2 a3 a4 a5 a6) s) ∧ Grew w w'
theorem ansR_of {f : FuncId} {args : Array Value} {r : Value → Value} {s : PS} {w : World} (h : Calls Tryz.prog f args w fun e w' => ∃ v', e = .returned (r v') ∧ Hid (Plr w' w.heap.size v' s) ∧ Grew w w') : plAnsR f args r s w := by
  refine Calls.mono h ?_
  rintro e w' ⟨v', rfl, H, g⟩
  obtain ⟨a1, a2, a3, a4, a5, a6, rfl⟩ := H.out.pl.shaped
  exact ⟨a1, a2, a3, a4, a5, a6, rfl, H, g⟩
theorem ansP_of {f : FuncId} {args : Array Value} {r : Value → Value} {s : PS} {w : World} (h : Calls Tryz.prog f args w fun e w' => ∃ v', e = .returned (r v') ∧ Hid (Pl w' v' s) ∧ Grew w w') : AnsP f args r s w := by
  refine Calls.mono h ?_
  rintro e w' ⟨v', rfl, H, g⟩
  obtain ⟨a1, a2, a3, a4, a5, a6, rfl⟩ := H.out.shaped
  exact ⟨a1, a2, a3, a4, a5, a6, rfl, H, g⟩
theorem ansP_of_row {f : FuncId} {args : Array Value} {r : Value → Value} {s : PS} {w : World} (h : Calls Tryz.prog f args w fun e w' => ∃ v', e = .returned (r v') ∧ Hid (Plr w' w.heap.size v' s) ∧ Grew w w') : AnsP f args r s w := by
  refine ansP_of (Calls.mono h ?_)
  rintro e w' ⟨v', rfl, H, g⟩
  exact ⟨v', rfl, Lib.hid H.out.pl, g⟩
theorem plLoad_a {s s' : PS} (hf : s.Fits) {off size y : Int} {b : Bool} (hy : plLdY s off size = y) (hs : plLdS s off size = s') (hb : (!badB s off size) = b) (w : World) (v : Value) (hp : Pl w v s) :
    AnsP 50 #[v, .int .u64 off, .int .i64 size] (fun v' => .tuple #[.int .u64 y, v', .bool b]) s' w := by
  subst hy hs hb
  exact ansP_of_row (load_t hf off size hp)
theorem plStore_a {s s' : PS} (hf : s.Fits) {off size x : Int} {b : Bool} (h0 : 0 ≤ x) (h1 : x < 18446744073709551616) (hs : plStS s off size x = s') (hb : (!badB s off size) = b) (w : World) (v : Value) (hp : Pl w v s) :
    AnsP 52 #[v, .int .u64 off, .int .i64 size, .int .u64 x] (fun v' => .tuple #[v', .bool b]) s' w := by
  subst hs hb
  exact ansP_of_row (store_t hf off size x h0 h1 hp)
theorem set_a {s s' : PS} (hf : s.Fits) {l : Int} (hs : setS s l = s') (w : World) (v : Value) (hp : Pl w v s) :
    AnsP 20 #[v, .int .i64 l] (fun v' => v') s' w := by
  subst hs
  exact ansP_of_row (r := fun v' => v') (set_t hf l hp)
theorem set_r {s s' : PS} (hf : s.Fits) {l : Int} (hs : setS s l = s') (w : World) (v : Value) (hp : Pl w v s) :
    plAnsR 20 #[v, .int .i64 l] (fun v' => v') s' w := by
  subst hs
  exact ansR_of (r := fun v' => v') (set_t hf l hp)
theorem best_a {s : PS} {x y : Int} (hy : bestS s x = y) (w : World) (v : Value) (hp : Pl w v s) : Ans 24 #[v, .int .i64 x] (.int .i64 y) w := by
  subst hy
  exact best_t x hp
theorem check_a {s : PS} {b : Bool} (hb : plChk s = b) (w : World) (v : Value) (hp : Pl w v s) : Ans 36 #[v] (.bool b) w := by
  subst hb
  exact plCheck_c (Grew.refl w) hp
theorem new_a (w : World) : AnsP 28 #[] (fun v' => v') newV.ps w := ansP_of_row (r := fun v' => v') (new_t w)
/-- Lists that a controller that may be is made of. -/
theorem vs_of {w : World} {v : Value} {s : PS} (hp : Pl w v s) (h : plChk s = true) : ∃ x : VS, x.Ok ∧ s = x.ps := hp.vs h
theorem chk_ld {w : World} {v : Value} {s : PS} (hp : Pl w v s) (h : plChk s = true) (off size : Int) : plChk (plLdS s off size) = true ∧ 0 ≤ plLdY s off size ∧ plLdY s off size ≤ 7 := by
  obtain ⟨x, hx, rfl⟩ := hp.vs h
  unfold plLdS plLdY
  split
  · exact ⟨h, by omega, by omega⟩
  · exact ⟨chk_mk (hx.loaded _), hx.load _⟩
theorem chk_st {w : World} {v : Value} {s : PS} (hp : Pl w v s) (h : plChk s = true) (off size x : Int) : plChk (plStS s off size x) = true := by
  obtain ⟨y, hy, rfl⟩ := hp.vs h
  unfold plStS
  split
  · exact h
  · exact chk_mk (hy.store _ _)
theorem chk_set {w : World} {v : Value} {s : PS} (hp : Pl w v s) (h : plChk s = true) (l : Int) : plChk (setS s l) = true := by
  obtain ⟨y, hy, rfl⟩ := hp.vs h
  unfold setS
  rw [if_pos h]
  exact chk_mk (hy.set l)
theorem set_bad {s : PS} (h : plChk s = false) (l : Int) : setS s l = s := by
  unfold setS
  rw [if_neg (by rw [h]; simp)]
end Go.Proofs.YtgcfmijkggpemaaGreat
