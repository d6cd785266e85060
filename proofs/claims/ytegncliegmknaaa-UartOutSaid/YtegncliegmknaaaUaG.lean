/-
  Answers of package uart, as the laws about it walk with them.
-/
import Derived.Test.YtegncliegmknaaaUaF
set_option linter.unusedVariables false
set_option linter.unusedSimpArgs false
namespace Go.Proofs.Ytegncliegmknaaa
open Go.RowKit

/-- f answers r of a line's value that reads as s, its rows made since. -/
def AnsR (f : FuncId) (args : Array Value) (r : Value → Value) (s : US) (w : World) : Prop :=
  Calls Try.prog f args w fun e w' => ∃ a1 a2 a3 a4, e = .returned (r (uaV s a1 a2 a3 a4)) ∧ Hid (Uar w' w.heap.size (uaV s a1 a2 a3 a4) s) ∧ Grew w w'
theorem load_a {s s' : US} (l1 : s.i.length ≤ 35184372088832) (l2 : s.o.length ≤ 35184372088832) {off size y : Int} {b : Bool} (hy : ldY s off size = y) (hs : ldS s off size = s') (hb : (!badU off size) = b) (w : World) (v : Value) (hp : Ua w v s) :
    AnsR 8 #[v, .int .u64 off, .int .i64 size] (fun v' => .tuple #[.int .u64 y, v', .bool b]) s' w := by
  subst hy hs hb
  exact load_c (by omega) (by omega) off size hp
theorem store_a {s s' : US} (l1 : s.i.length ≤ 35184372088832) (l2 : s.o.length ≤ 35184372088832) {off size x : Int} {b : Bool} (hx : 0 ≤ x) (hs : stS s off size x = s') (hb : (!badU off size) = b) (w : World) (v : Value) (hp : Ua w v s) :
    AnsR 10 #[v, .int .u64 off, .int .i64 size, .int .u64 x] (fun v' => .tuple #[v', .bool b]) s' w := by
  subst hs hb
  exact store_c (by omega) (by omega) off size x hx hp
theorem type_a {s s' : US} (l1 : s.i.length ≤ 35184372088832) (l2 : s.o.length ≤ 35184372088832) {ys : List Int} (l3 : ys.length ≤ 35184372088832) (hs : tyS s ys = s') (w : World) (v u : Value) (hp : Ua w v s) (hu : Buf w u ys) :
    AnsR 7 #[v, u] (fun v' => v') s' w := by
  subst hs
  exact type_c l1 (by omega) l3 hp hu
theorem ua_zero (w : World) : Ua w (.agg #[.slice none 0 0, .slice none 0 0, .int .i64 0, .int .i64 0]) hU0 := ⟨⟨_, _, rfl, Buf.nil _, Buf.nil _⟩, ⟨by decide, by decide⟩, ⟨by decide, by decide⟩⟩
end Go.Proofs.Ytegncliegmknaaa
