/-
  Package nic: what the registers send, all cases.
-/
import Derived.Test.YtoehdhhodidehaaRows
import Derived.Test.YtoehdhhodidehaaNcK
import Derived.Test.YtoehdhhodidehaaNcL
import Derived.WalkKit
import Derived.Outline
import Derived.Handy
import Derived.StillTailTactics
import Derived.Deep.QuietTactic
import Derived.BigQuiet
import Derived.Deep.DeepCutAuto
import Derived.Deep.RegionHeld3
import Derived.Great.BuildSlice
import Derived.Deep.WholeRow
import Derived.Lib.SliceRun
set_option maxRecDepth 4000
set_option linter.unusedVariables false
set_option linter.unusedSimpArgs false
namespace Go.Proofs.Ytoehdhhodidehaa
open Go.RowKit

theorem send_c {c : Nat → Int} {p : Nat} {w : World} {a : Option Addr} {n m : Nat} {xs : List Int} (hB : Blk w p (rgA c) 80) (hM : Buf w (.slice a n m) xs) (hl : xs.length ≤ 140737488355328) (hc : ROk c) :
    Calls Try.prog 36 #[.pointer (some ⟨p, 0, none⟩), .agg #[.slice a n m]] w fun e w' => ∃ a1 n1 m1 a2 n2 m2, e = .returned (.tuple #[.agg #[.slice a1 n1 m1], .slice a2 n2 m2, .bool (sendR c xs).b]) ∧ Hid (Buf w' (.slice a1 n1 m1) (sendR c xs).xs) ∧ Hid (Buf w' (.slice a2 n2 m2) (sendR c xs).f) ∧ Blk w' p (rgA (sendR c xs).c) 80 ∧ Trn p w w' := by
  unfold sendR atT
  cases hw : waitst c
  · exact send_idle hB hM hl hc hw
  cases hin : insideV xs.length (c 3 + 16 * c 5) 16
  · exact send_broke hB hM hl hc hw hin
  obtain ⟨ds, hds⟩ : ∃ ds, bytesV xs (c 3 + 16 * c 5) 16 = ds := ⟨_, rfl⟩
  rw [hds]
  cases hown : ownB ds
  · have := send_other hB hM hl hc hw hin (by rw [hds]; exact hown)
    exact this
  cases hi : insideV xs.length (adrV ds) (lenV ds)
  · exact send_bad1 hB hM hl hc hw hin hds hown hi
  cases hfb : frameB (lenV ds)
  · exact send_bad2 hB hM hl hc hw hin hds hown hi hfb
  · exact send_good hB hM hl hc hw hin hds hown hi hfb
end Go.Proofs.Ytoehdhhodidehaa
