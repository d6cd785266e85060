/-
  append(s, x...) as a step of a region that draws its order, walked by hand (tools/gen/held.py): the slots as a variable. For every later stage.
-/
import Derived.Test.YtnafdgpkofffaaaDoorBuf
import Derived.Deep.RegionHeld3
set_option maxRecDepth 4000
set_option linter.unusedVariables false
set_option linter.unusedSimpArgs false
namespace Go.Proofs.YtnafdgpkofffaaaDoor
open Go.RowKit

theorem step_append_t {ops : Array Oper} {T : Array Value} {o : Oper} {a : Act} {w W : World} {K : Act → World → Prop} {Q : Exit → Act → World → Prop} {E : Prop} (hgd : o.guard = none) (s x : Operand)
    (ho : o.op = .call { callee := .builtin .append, args := #[s, x], argTypes := #[22, 22] }) (hgr : Grew W w)
    {v u : Value} {xs ys : List Int} (hown : Row w W.heap.size v xs) (hu : Buf w u ys) (hs : a.eval s = v) (hx : a.eval x = u) (hlen : xs.length + ys.length ≤ 140737488355328)
    (h : ∀ v' w', Hid (Row w' W.heap.size v' (xs ++ ys)) → Grew W w' → K (a.put o.dst v') w') : if Region.wanted o (yielded ops T) = true then Oper.wp Tryd.prog o a w K Q else E := by
  have hw : Region.wanted o (yielded ops T) = true := by simp [Region.wanted, hgd]
  rw [if_pos hw]
  exact wp_append_b s x ho hgr hown hu hs hx hlen fun v' w' h1 h2 _ => h v' w' h1 h2
end Go.Proofs.YtnafdgpkofffaaaDoor
