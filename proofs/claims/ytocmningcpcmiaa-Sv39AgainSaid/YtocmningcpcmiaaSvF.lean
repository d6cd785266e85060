/-
  Contracts of the document's own pages: Translate, whole.
-/
import Derived.Test.YtocmningcpcmiaaSvE
set_option linter.unusedVariables false
set_option linter.unusedSimpArgs false
namespace Go.Proofs.Ytocmningcpcmiaa
open Go.RowKit

theorem refTrans_c {v : Value} {xs : List Int} (satp status priv x kind : Int) (hs0 : 0 ≤ satp) (hs1 : satp < 18446744073709551616) (ht0 : 0 ≤ status) (ht1 : status < 18446744073709551616) (hx0 : 0 ≤ x) (hx1 : x < 18446744073709551616)
    (w : World) (hb : Buf w v xs) (hl : xs.length ≤ 140737488355328) :
    Calls Try.prog 10 #[.agg #[v], .int .u64 satp, .int .u64 status, .int .i64 priv, .int .u64 x, .int .i64 kind] w (SvEnds (svV xs satp status priv x kind) w) := by
  obtain ⟨a, c, rfl, _, _⟩ := hb.shape
  by_cases hp : 3 ≤ priv
  · rw [show svV xs satp status priv x kind = ⟨x, xs, 0, true⟩ by unfold svV; rw [if_pos (.inl hp)]]
    exact refTrans_m satp status priv x kind hp w hb
  have hp' : priv < 3 := by omega
  by_cases hm : fieldV satp 63 60 = 8
  · have hm' : (fieldV satp 63 60 != 8) = false := by simpa using hm
    by_cases hx : sextV x 39 = x
    · have hx' : (sextV x 39 != x) = false := by simpa using hx
      refine refTrans_l satp status priv x kind _ hp' hs0 hs1 ht0 ht1 hx0 hx1 hm' hx' ?_ w hb hl
      unfold svV
      rw [if_neg (fun h => h.elim hp (fun h => h hm)), if_pos hx]
    · have hx' : (sextV x 39 != x) = true := by simpa using hx
      rw [show svV xs satp status priv x kind = noV xs kind true by unfold svV; rw [if_neg (fun h => h.elim hp (fun h => h hm)), if_neg hx]]
      exact refTrans_s satp status priv x kind hp' hs0 hs1 hx0 hx1 hm' hx' w hb
  · have hm' : (fieldV satp 63 60 != 8) = true := by simpa using hm
    rw [show svV xs satp status priv x kind = ⟨x, xs, 0, true⟩ by unfold svV; rw [if_pos (.inr hm)]]
    exact refTrans_o satp status priv x kind hp' hs0 hs1 hm' w hb
end Go.Proofs.Ytocmningcpcmiaa
