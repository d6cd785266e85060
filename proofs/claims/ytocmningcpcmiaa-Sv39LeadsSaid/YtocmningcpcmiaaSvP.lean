/-
  Package sv39 answers as the plain numbers say (Pages).
-/
import Derived.Test.YtocmningcpcmiaaSvI
import Derived.Test.YtocmningcpcmiaaSvL
set_option linter.unusedVariables false
set_option linter.unusedSimpArgs false
namespace Go.Proofs.Ytocmningcpcmiaa
open Go.RowKit

theorem trans_c {v : Value} {xs : List Int} (satp status priv x kind : Int) (hs0 : 0 ≤ satp) (hs1 : satp < 18446744073709551616) (ht0 : 0 ≤ status) (ht1 : status < 18446744073709551616) (hx0 : 0 ≤ x) (hx1 : x < 18446744073709551616)
    (w : World) (hb : Buf w v xs) (hl : xs.length ≤ 140737488355328) :
    Calls Try.prog 9 #[.agg #[v], .int .u64 satp, .int .u64 status, .int .i64 priv, .int .u64 x, .int .i64 kind] w (SvEnds (svV xs satp status priv x kind) w) := by
  obtain ⟨a, c, rfl, _, _⟩ := hb.shape
  by_cases hp : 3 ≤ priv
  · rw [show svV xs satp status priv x kind = ⟨x, xs, 0, true⟩ by unfold svV; rw [if_pos (.inl hp)]]
    exact trans_m satp status priv x kind hp w hb hl
  have hp' : priv < 3 := by omega
  by_cases hm : fieldV satp 63 60 = 8
  · have hm' : (fieldV satp 63 60 != 8) = false := by simpa using hm
    by_cases hx : sextV x 39 = x
    · have hx' : (sextV x 39 != x) = false := by simpa using hx
      refine trans_l satp status priv x kind _ hp' hs0 hs1 ht0 ht1 hx0 hx1 hm' hx' ?_ w hb hl
      unfold svV
      rw [if_neg (fun h => h.elim hp (fun h => h hm)), if_pos hx]
    · have hx' : (sextV x 39 != x) = true := by simpa using hx
      rw [show svV xs satp status priv x kind = noV xs kind true by unfold svV; rw [if_neg (fun h => h.elim hp (fun h => h hm)), if_neg hx]]
      exact trans_s satp status priv x kind hp' hs0 hs1 hx0 hx1 hm' hx' w hb hl
  · have hm' : (fieldV satp 63 60 != 8) = true := by simpa using hm
    rw [show svV xs satp status priv x kind = ⟨x, xs, 0, true⟩ by unfold svV; rw [if_pos (.inr hm)]]
    exact trans_o satp status priv x kind hp' hs0 hs1 hm' w hb hl
theorem pages : Pages where
  trans w v xs satp status priv x kind h1 h2 h3 h4 h5 h6 hb hl := trans_c satp status priv x kind h1 h2 h3 h4 h5 h6 w hb hl
  fault kind page w := (fault_c kind page w).mono fun _ _ ⟨he, hw⟩ => ⟨he, hw ▸ Grew.refl w⟩
end Go.Proofs.Ytocmningcpcmiaa
