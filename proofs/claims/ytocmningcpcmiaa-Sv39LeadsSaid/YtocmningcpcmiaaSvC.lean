/-
  Contracts of the document's own pages: allowed.
-/
import Derived.Test.YtocmningcpcmiaaSvBa
import Derived.Test.YtocmningcpcmiaaSvBb
import Derived.Test.YtocmningcpcmiaaSvBc
set_option linter.unusedVariables false
set_option linter.unusedSimpArgs false
namespace Go.Proofs.Ytocmningcpcmiaa
open Go.RowKit

theorem ref8allow_c (e status priv kind : Int) (l : Nat) (hl : l ≤ 2) (he : 0 ≤ e ∧ e < 18446744073709551616) (hs : 0 ≤ status ∧ status < 18446744073709551616) (w : World) : Calls Try.prog 32 #[.int .u64 e, .int .u64 status, .int .i64 priv, .int .i64 kind, .int .i64 l] w fun e' w' => e' = .returned (.bool (allowV e status priv kind l)) ∧ w = w' := by
  by_cases hp : priv < 1
  · cases hu : (fieldV e 4 4 == 1)
    · exact ref8allow_n1 e status priv kind l hl he hs w hp hu
    · skip
      by_cases hk : kind = 0
      · cases hx : (fieldV e 3 3 == 1)
        · exact ref8allow_A0f e status priv kind l hl he hs w hp hu hk hx
        · exact ref8allow_A0t e status priv kind l hl he hs w hp hu hk hx
      have hk' : (kind == 0) = false := by simpa using hk
      by_cases hk2 : kind = 2
      · cases hw : (fieldV e 2 2 == 1)
        · exact ref8allow_A2f e status priv kind l hl he hs w hp hu hk2 hw
        · exact ref8allow_A2t e status priv kind l hl he hs w hp hu hk2 hw
      have hk2' : (kind == 2) = false := by simpa using hk2
      cases hr : (fieldV e 1 1 == 1)
      · cases hx : (fieldV e 3 3 == 1)
        · exact ref8allow_Aof e status priv kind l hl he hs w hp hu hk hk' hk2 hk2' hr hx
        · cases h19 : (fieldV status 19 19 == 1)
          · exact ref8allow_Aog e status priv kind l hl he hs w hp hu hk hk' hk2 hk2' hr hx h19
          · exact ref8allow_Aot e status priv kind l hl he hs w hp hu hk hk' hk2 hk2' hr hx h19
      · exact ref8allow_Aor e status priv kind l hl he hs w hp hu hk hk' hk2 hk2' hr
  have hp' := hp
  have hp : 1 ≤ priv := by omega
  cases hu : (fieldV e 4 4 == 1)
  · skip
    by_cases hk : kind = 0
    · cases hx : (fieldV e 3 3 == 1)
      · exact ref8allow_B0f e status priv kind l hl he hs w hp hp' hu hk hx
      · exact ref8allow_B0t e status priv kind l hl he hs w hp hp' hu hk hx
    have hk' : (kind == 0) = false := by simpa using hk
    by_cases hk2 : kind = 2
    · cases hw : (fieldV e 2 2 == 1)
      · exact ref8allow_B2f e status priv kind l hl he hs w hp hp' hu hk2 hw
      · exact ref8allow_B2t e status priv kind l hl he hs w hp hp' hu hk2 hw
    have hk2' : (kind == 2) = false := by simpa using hk2
    cases hr : (fieldV e 1 1 == 1)
    · cases hx : (fieldV e 3 3 == 1)
      · exact ref8allow_Bof e status priv kind l hl he hs w hp hp' hu hk hk' hk2 hk2' hr hx
      · cases h19 : (fieldV status 19 19 == 1)
        · exact ref8allow_Bog e status priv kind l hl he hs w hp hp' hu hk hk' hk2 hk2' hr hx h19
        · exact ref8allow_Bot e status priv kind l hl he hs w hp hp' hu hk hk' hk2 hk2' hr hx h19
    · exact ref8allow_Bor e status priv kind l hl he hs w hp hp' hu hk hk' hk2 hk2' hr
  · by_cases hk : kind = 0
    · exact ref8allow_n2 e status priv kind l hl he hs w hp hp' hu hk
    have hk' : (kind == 0) = false := by simpa using hk
    cases h18 : (fieldV status 18 18 == 0)
    · skip
      by_cases hk2 : kind = 2
      · cases hw : (fieldV e 2 2 == 1)
        · exact ref8allow_C2f e status priv kind l hl he hs w hp hp' hu hk hk' h18 hk2 hw
        · exact ref8allow_C2t e status priv kind l hl he hs w hp hp' hu hk hk' h18 hk2 hw
      have hk2' : (kind == 2) = false := by simpa using hk2
      cases hr : (fieldV e 1 1 == 1)
      · cases hx : (fieldV e 3 3 == 1)
        · exact ref8allow_Cof e status priv kind l hl he hs w hp hp' hu hk hk' h18 hk2 hk2' hr hx
        · cases h19 : (fieldV status 19 19 == 1)
          · exact ref8allow_Cog e status priv kind l hl he hs w hp hp' hu hk hk' h18 hk2 hk2' hr hx h19
          · exact ref8allow_Cot e status priv kind l hl he hs w hp hp' hu hk hk' h18 hk2 hk2' hr hx h19
      · exact ref8allow_Cor e status priv kind l hl he hs w hp hp' hu hk hk' h18 hk2 hk2' hr
    · exact ref8allow_n3 e status priv kind l hl he hs w hp hp' hu hk hk' h18
end Go.Proofs.Ytocmningcpcmiaa
