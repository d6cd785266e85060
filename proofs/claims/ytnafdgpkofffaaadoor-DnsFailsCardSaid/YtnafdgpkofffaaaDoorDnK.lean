/-
  What must come at any rate (law 21), from what the program's calls answer.
-/
import Derived.Test.YtnafdgpkofffaaaDoorDnW
set_option maxRecDepth 4000
set_option linter.unusedVariables false
set_option linter.unusedSimpArgs false
namespace Go.Proofs.YtnafdgpkofffaaaDoor
open Go.RowKit

def bA : List Int := [0, 7, 1, 0, 0, 1, 0, 0, 0, 0, 0, 0, 1, 97, 2, 98, 67, 0, 0, 1, 0, 1]
def wA : List Int := [1, 2, 1, 0, 0, 1, 0, 0, 0, 0, 0, 0, 1, 97, 2, 98, 67, 0, 0, 1, 0, 1]
def cA : List Int := [1, 2, 129, 131, 0, 1, 0, 0, 0, 0, 0, 0, 1, 97, 2, 98, 67, 0, 0, 1, 0, 1]
theorem hk_ask (hA : AskC) {w : World} (sn : SenW w) : Calls Tryd.prog 7 #[.int .i64 7, .string ⟨#[97, 46, 98, 67, 46]⟩, .int .i64 1] w fun e w' => ∃ a c, e = .returned (.tuple #[.slice a 22 c, .int .i64 0]) ∧ Buf w' (.slice a 22 c) bA ∧ Grew w w' := by
  have := hA (xs := [97, 46, 98, 67, 46]) 7 1 (w := w) (by unfold intI; omega) (by unfold intI; omega) (bytes_lit (by decide)) (by decide) sn
  rw [show strOfNums [97, 46, 98, 67, 46] = ⟨#[97, 46, 98, 67, 46]⟩ by kernel_rfl, show askE 7 [97, 46, 98, 67, 46] 1 = 0 by kernel_rfl, show askV 7 [97, 46, 98, 67, 46] 1 = bA by kernel_rfl] at this
  refine this.mono ?_
  rintro e w1 ⟨u, he, hb, g⟩
  obtain ⟨a, c, rfl, _, _⟩ := hb.shape
  exact ⟨a, c, he, hb, g⟩
theorem hk_no (hA : AskC) {w : World} (sn : SenW w) : Calls Tryd.prog 7 #[.int .i64 0, .string ⟨#[97, 46, 46, 98]⟩, .int .i64 1] w fun e w' => ∃ u, e = .returned (.tuple #[u, .int .i64 2]) ∧ Grew w w' := by
  have := hA (xs := [97, 46, 46, 98]) 0 1 (w := w) (by unfold intI; omega) (by unfold intI; omega) (bytes_lit (by decide)) (by decide) sn
  rw [show strOfNums [97, 46, 46, 98] = ⟨#[97, 46, 46, 98]⟩ by kernel_rfl, show askE 0 [97, 46, 46, 98] 1 = 2 by kernel_rfl] at this
  exact this.mono fun _ _ ⟨u, he, _, g⟩ => ⟨u, he, g⟩
theorem hk_qs (hQ : QuestionC) {v : Value} {w : World} (sn : SenW w) (hb : Buf w v bA) : Calls Tryd.prog 8 #[v] w fun e w' => e = .returned (.tuple #[.string ⟨#[97, 46, 98, 99]⟩, .int .i64 1, .int .i64 0]) ∧ Grew w w' := by
  have := hQ (w := w) (by decide) sn hb
  rw [show qsV bA = ([97, 46, 98, 99], 1, 22, 0) by kernel_rfl] at this
  exact this
theorem hk_qh (hQ : QuestionC) {v : Value} {w : World} (sn : SenW w) (hb : Buf w v (cutL bA 0 11)) : Calls Tryd.prog 8 #[v] w fun e w' => e = .returned (.tuple #[.string ⟨#[]⟩, .int .i64 0, .int .i64 160]) ∧ Grew w w' := by
  have := hQ (w := w) (by decide) sn hb
  rw [show qsV (cutL bA 0 11) = ([], 0, 0, 160) by kernel_rfl] at this
  exact this
theorem hk_id (hI : IdC) {v : Value} {w : World} (hb : Buf w v bA) : Calls Tryd.prog 9 #[v] w fun e w' => e = .returned (.tuple #[.int .i64 7, .bool true]) ∧ Grew w w' := by
  have := hI (w := w) (by decide) hb
  rw [show idV bA = (7, true) by kernel_rfl] at this
  exact this
theorem hk_with (hW : WithC) {v : Value} {w : World} (hb : Buf w v bA) : Calls Tryd.prog 12 #[v, .int .i64 258] w fun e w' => ∃ a c, e = .returned (.slice a 22 c) ∧ Buf w' (.slice a 22 c) wA ∧ Grew w w' := by
  have := hW 258 (w := w) (by unfold intI; omega) (by decide) hb
  rw [show withV bA 258 = wA by kernel_rfl] at this
  refine this.mono ?_
  rintro e w1 ⟨u, he, hb, g⟩
  obtain ⟨a, c, rfl, _, _⟩ := hb.shape
  exact ⟨a, c, he, hb, g⟩
theorem hk_fail (hF : FailC) {v : Value} {w : World} (sn : SenW w) (hb : Buf w v wA) : Calls Tryd.prog 14 #[v, .int .i64 3] w fun e w' => ∃ b o c, e = .returned (.tuple #[.slice (some ⟨b, o, none⟩) 22 c, .bool true]) ∧ Buf w' (.slice (some ⟨b, o, none⟩) 22 c) cA ∧ Grew w w' := by
  have := hF 3 (w := w) (by unfold intI; omega) (by decide) sn hb
  rw [show failOk wA = true by kernel_rfl, show failV wA 3 = cA by kernel_rfl] at this
  refine this.mono ?_
  rintro e w1 ⟨u, he, hb, g⟩
  obtain ⟨a, c, rfl, _, ha⟩ := id hb.shape
  obtain ⟨b, o, rfl, _⟩ := ha (by decide)
  exact ⟨b, o, c, he, hb, g⟩
theorem hk_qyc (hY : QueryC) {v : Value} {w : World} (hb : Buf w v cA) : Calls Tryd.prog 11 #[v] w fun e w' => e = .returned (.bool false) ∧ Grew w w' := by
  have := hY (w := w) (by decide) hb
  rw [show qyV cA = false by kernel_rfl] at this
  exact this
theorem hk_qyb (hY : QueryC) {v : Value} {w : World} (hb : Buf w v bA) : Calls Tryd.prog 11 #[v] w fun e w' => e = .returned (.bool true) ∧ Grew w w' := by
  have := hY (w := w) (by decide) hb
  rw [show qyV bA = true by kernel_rfl] at this
  exact this
set_option maxHeartbeats 2000000 in
theorem heads_of (hA : AskC) (hQ : QuestionC) (hI : IdC) (hW : WithC) (hF : FailC) (hY : QueryC) : HeadC := by
  intro W w hg sn
  have HG := Lib.hid (Grew.refl w)
  go_enter Tryd.func6, Tryd.ntmps6
  go_wp2_with fail
  refine (hk_ask hA sn).mono ?_
  rintro e w1 ⟨pb, cb, rfl, hb, g9⟩
  replace HG := Lib.hid (HG.out.trans g9)
  clear g9
  have HB := Lib.hid hb
  clear hb
  go_wp2_with fail
  refine (hk_qs hQ (sn.grew HG.out) HB.out).mono ?_
  rintro e w2 ⟨rfl, g9⟩
  replace HB := Lib.hid (HB.out.grew g9)
  replace HG := Lib.hid (HG.out.trans g9)
  clear g9
  go_wp2_with fail
  refine (hk_id hI HB.out).mono ?_
  rintro e w3 ⟨rfl, g9⟩
  replace HB := Lib.hid (HB.out.grew g9)
  replace HG := Lib.hid (HG.out.trans g9)
  clear g9
  go_wp2_with fail
  refine (hk_with hW HB.out).mono ?_
  rintro e w4 ⟨pw, cw, rfl, hw, g9⟩
  replace HB := Lib.hid (HB.out.grew g9)
  replace HG := Lib.hid (HG.out.trans g9)
  clear g9
  have HW := Lib.hid hw
  clear hw
  go_wp2_with fail
  refine (hk_fail hF (sn.grew HG.out) HW.out).mono ?_
  rintro e w5 ⟨bc, oc, cc, rfl, hc, g9⟩
  replace HB := Lib.hid (HB.out.grew g9)
  replace HG := Lib.hid (HG.out.trans g9)
  clear g9
  have HC := Lib.hid hc
  clear hc HW
  obtain ⟨a', c', hcut, s1, s2, hrun, s4⟩ := HB.out.run_cut (lo := 0) (hi := 11) (by omega) (by decide)
  have hr := hrun rfl .i64
  rw [Nat.sub_zero] at hr hcut
  have HH := Lib.hid hcut
  have hr' : ∀ w', (Instr.sliceAt 22 (.slice pb 22 cb) none (some (.int .i64 11)) none).run Tryd.prog w' = .ok (.slice a' 11 c') w' := hr
  clear s1 s2 hrun s4 hcut hr
  go_wp2_with fail
  refine (hk_qh hQ (sn.grew HG.out) HH.out).mono ?_
  rintro e w6 ⟨rfl, g9⟩
  replace HB := Lib.hid (HB.out.grew g9)
  replace HC := Lib.hid (HC.out.grew g9)
  replace HG := Lib.hid (HG.out.trans g9)
  clear g9
  clear HH hr'
  go_wp2_with fail
  refine (hk_no hA (sn.grew HG.out)).mono ?_
  rintro e w7 ⟨un, rfl, g9⟩
  replace HB := Lib.hid (HB.out.grew g9)
  replace HC := Lib.hid (HC.out.grew g9)
  replace HG := Lib.hid (HG.out.trans g9)
  clear g9
  obtain ⟨ac, kc, ec, ez, hat⟩ := HC.out.shape
  clear ez
  obtain ⟨b2, o2, e2, hat2⟩ := hat (by decide)
  simp only [Value.slice.injEq] at ec
  obtain ⟨ec1, ec2, ec3⟩ := ec
  clear ec2
  subst ec3
  rw [e2] at ec1
  simp only [Option.some.injEq, Addr.mk.injEq, and_true] at ec1
  obtain ⟨rfl, rfl⟩ := ec1
  have x0 : w7.cell? ⟨bc, oc, none⟩ = some (.int .u8 1) := hat2 0 (by decide)
  have x1 : w7.cell? ⟨bc, oc + 1, none⟩ = some (.int .u8 2) := hat2 1 (by decide)
  have x3 : w7.cell? ⟨bc, oc + 3, none⟩ = some (.int .u8 131) := hat2 3 (by decide)
  clear hat hat2 e2
  go_wp2_with fail
  refine (hk_qyc hY HC.out).mono ?_
  rintro e w8 ⟨rfl, g9⟩
  replace HB := Lib.hid (HB.out.grew g9)
  replace HG := Lib.hid (HG.out.trans g9)
  clear g9
  go_wp2_with fail
  refine (hk_qyb hY HB.out).mono ?_
  rintro e w9 ⟨rfl, g9⟩
  replace HG := Lib.hid (HG.out.trans g9)
  clear g9
  go_wp2_with fail
  go_ret
  exact ⟨rfl, hg.trans HG.out⟩
end Go.Proofs.YtnafdgpkofffaaaDoor
