/-
  Package nic: what the registers receive, all cases.
-/
import Derived.Test.YtoehdhhodidehaaRows
import Derived.Test.YtoehdhhodidehaaNcN
import Derived.Test.YtoehdhhodidehaaNcO
import Derived.Test.YtoehdhhodidehaaNcP
import Derived.WalkKit
import Derived.Outline
import Derived.Handy
import Derived.StillTailTactics
import Derived.Deep.QuietTactic
import Derived.BigQuiet
import Derived.Deep.DeepCutAuto
import Derived.Deep.RegionHeld3
import Derived.Great.BuildSlice
import Derived.Deep.WholeRow
import Derived.Lib.SliceRun
set_option maxRecDepth 4000
set_option linter.unusedVariables false
set_option linter.unusedSimpArgs false
namespace Go.Proofs.Ytoehdhhodidehaa
open Go.RowKit

def recvR (c : Nat → Int) (xs fs : List Int) : SR :=
  if takesB c fs then
    if waitsr c then
      if insideV xs.length (atR c) 16 then
        if ownB (bytesV xs (atR c) 16) then
          if decide (lenV (bytesV xs (atR c) 16) < (fs.length : Int)) || !insideV xs.length (adrV (bytesV xs (atR c) 16)) (fs.length : Int) then ⟨headr (dropC (failC c)), writeV xs (atR c + 10) 4 (bothV (bytesV xs (atR c) 16) 4), [], false⟩
          else ⟨headr (upd c 1 (orB 2 (c 1))), writeV (fillV (writeV xs (atR c + 8) 2 (fs.length : Int)) (adrV (bytesV xs (atR c) 16)) fs) (atR c + 10) 4 (bothV (bytesV xs (atR c) 16) 1), [], true⟩
        else ⟨dropC c, xs, [], false⟩
      else ⟨dropC (broker c), xs, [], false⟩
    else ⟨dropC c, xs, [], false⟩
  else ⟨dropC c, xs, [], false⟩
theorem recv_c {c : Nat → Int} {p : Nat} {w : World} {a : Option Addr} {n m : Nat} {xs : List Int} {fa : Option Addr} {fn fm : Nat} {fs : List Int} (hB : Blk w p (rgA c) 80) (hM : Buf w (.slice a n m) xs) (hl : xs.length ≤ 140737488355328) (hF : Buf w (.slice fa fn fm) fs) (hc : ROk c) :
    Calls Try.prog 47 #[.pointer (some ⟨p, 0, none⟩), .agg #[.slice a n m], .slice fa fn fm] w fun e w' => ∃ a1 n1 m1, e = .returned (.tuple #[.agg #[.slice a1 n1 m1], .bool (recvR c xs fs).b]) ∧ Hid (Buf w' (.slice a1 n1 m1) (recvR c xs fs).xs) ∧ Blk w' p (rgA (recvR c xs fs).c) 80 ∧ Trn p w w' := by
  unfold recvR atR
  cases ht : takesB c fs
  · exact recv_idle1 hB hM hl hF hc ht
  cases hw : waitsr c
  · exact recv_idle2 hB hM hl hF hc ht hw
  cases hin : insideV xs.length (c 7 + 16 * c 9) 16
  · exact recv_broke hB hM hl hF hc ht hw hin
  obtain ⟨ds, hds⟩ : ∃ ds, bytesV xs (c 7 + 16 * c 9) 16 = ds := ⟨_, rfl⟩
  rw [hds]
  cases hown : ownB ds
  · exact recv_other hB hM hl hF hc ht hw hin hds hown
  by_cases hlt : lenV ds < (fs.length : Int)
  · rw [decide_eq_true hlt]
    exact recv_bad1 hB hM hl hF hc ht hw hin hds hown hlt
  · rw [decide_eq_false hlt]
    cases hi : insideV xs.length (adrV ds) (fs.length : Int)
    · exact recv_bad2 hB hM hl hF hc ht hw hin hds hown hlt hi
    · exact recv_good hB hM hl hF hc ht hw hin hds hown hlt hi
end Go.Proofs.Ytoehdhhodidehaa
