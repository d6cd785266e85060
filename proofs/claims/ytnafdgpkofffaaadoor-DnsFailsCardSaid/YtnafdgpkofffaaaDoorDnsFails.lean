/-
  The statement DnsFails: that an answer that fails has the question, and its number, and is no question: for every bytes and code. Conditions: none but those of the statement's row (the package variables as the text lays them).
-/
import Derived.Test.YtnafdgpkofffaaaDoorDnH
import Derived.Test.YtnafdgpkofffaaaDoorDnW
import Derived.Test.YtnafdgpkofffaaaDoorDnS
import Derived.Test.YtnafdgpkofffaaaDoorLaw
import Derived.Test.YtnafdgpkofffaaaDoorDnL
import Derived.Test.YtnafdgpkofffaaaDoorCards
import Derived.Test.YtnafdgpkofffaaaDoorTie
import Derived.SevenTiedAt
set_option maxRecDepth 4000
set_option linter.unusedVariables false
set_option linter.unusedSimpArgs false
namespace Go.Proofs.YtnafdgpkofffaaaDoor.dnsFails
open Go.ChangeShapes Go.WideShapes Go.ChangeAt Go.RowKit

theorem walk_f0 (hD : HeadC) (a : Option Addr) (n c : Nat) (code : Int) (h1 : (2000 : Int) < (n : Int)) {W : World} (sn : SenW W) :
    Calls Tryd.prog 5 #[.slice a n c, .int .i64 code] W fun e w' => e = .returned (.bool true) ∧ Below W.heap.size W w' := by
  have HG := Lib.hid (Grew.refl W)
  go_enter Tryd.func5, Tryd.ntmps5
  go_wp2_with fail
  refine (hD HG.out (sn.grew HG.out)).mono ?_
  rintro e wh ⟨rfl, gh⟩
  go_wp2_with fail
  go_ret
  exact ⟨rfl, gh⟩
set_option maxHeartbeats 2000000 in
theorem walk_noa (hQ : QuestionC) (hY : QueryC) (hF : FailC) (hD : HeadC) {v : Value} {xs : List Int} (code : Int) (hcode : intI code) (h2 : xs.length ≤ 2000) (he : ((qsV xs).2.2.2 != 0) = true) {W : World} (sn : SenW W) (hb : Buf W v xs) :
    Calls Tryd.prog 5 #[v, .int .i64 code] W fun e w' => e = .returned (.bool true) ∧ Below W.heap.size W w' := by
  obtain ⟨a, c, rfl, _, _⟩ := hb.shape
  have HB := Lib.hid hb
  have HG := Lib.hid (Grew.refl W)
  have HXL : ¬ (2000 : Int) < ((xs.length : Nat) : Int) := by omega
  have FA := Lib.hid (fun (w : World) (g : Grew W w) (v : Value) (h : Buf w v xs) => hF (w := w) (xs := xs) code hcode (by omega) (sn.grew (g)) h)
  have Q1 := Lib.hid (fun (w : World) (g : Grew W w) (v : Value) (h : Buf w v xs) => hQ (w := w) (xs := xs) (by omega) (sn.grew (g)) h)
  have Y1 := Lib.hid (fun (w : World) (v : Value) (h : Buf w v xs) => hY (w := w) (xs := xs) (by omega) h)
  have hok : failOk xs = false := by
    unfold failOk
    rw [show ((qsV xs).2.2.2 == 0) = false by simpa using he]; rfl
  rw [hok, show failV xs code = [] by unfold failV; rw [hok]; rfl] at FA
  skip
  clear hQ hF hY hb hok
  generalize strOfNums (qsV xs).1 = s1 at *
  generalize (qsV xs).2.1 = k1 at *
  generalize (qsV xs).2.2.2 = r1 at *
  generalize xs.length = n at *
  go_enter Tryd.func5, Tryd.ntmps5
  go_wp2_with fail
  refine (FA.out _ HG.out _ HB.out).mono ?_
  rintro e w3 ⟨u, rfl, h3, g9⟩
  replace HB := Lib.hid (HB.out.grew g9)
  replace HG := Lib.hid (HG.out.trans g9)
  clear g9
  obtain ⟨p3, c3, rfl, z3, _⟩ := h3.shape
  clear z3 h3
  rw [List.length_nil]
  go_wp2_with fail
  refine (Q1.out _ HG.out _ HB.out).mono ?_
  rintro e w4 ⟨rfl, g9⟩
  replace HB := Lib.hid (HB.out.grew g9)
  replace HG := Lib.hid (HG.out.trans g9)
  clear g9
  go_wp2_with fail
  refine (hD HG.out (sn.grew HG.out)).mono ?_
  rintro e wh ⟨rfl, gh⟩
  go_wp2_with fail
  go_ret
  exact ⟨rfl, gh⟩
set_option maxHeartbeats 2000000 in
theorem walk_nob (hQ : QuestionC) (hY : QueryC) (hF : FailC) (hD : HeadC) {v : Value} {xs : List Int} (code : Int) (hcode : intI code) (h2 : xs.length ≤ 2000) (he : ((qsV xs).2.2.2 != 0) = false) (hq : qyV xs = false) {W : World} (sn : SenW W) (hb : Buf W v xs) :
    Calls Tryd.prog 5 #[v, .int .i64 code] W fun e w' => e = .returned (.bool true) ∧ Below W.heap.size W w' := by
  obtain ⟨a, c, rfl, _, _⟩ := hb.shape
  have HB := Lib.hid hb
  have HG := Lib.hid (Grew.refl W)
  have HXL : ¬ (2000 : Int) < ((xs.length : Nat) : Int) := by omega
  have FA := Lib.hid (fun (w : World) (g : Grew W w) (v : Value) (h : Buf w v xs) => hF (w := w) (xs := xs) code hcode (by omega) (sn.grew (g)) h)
  have Q1 := Lib.hid (fun (w : World) (g : Grew W w) (v : Value) (h : Buf w v xs) => hQ (w := w) (xs := xs) (by omega) (sn.grew (g)) h)
  have Y1 := Lib.hid (fun (w : World) (v : Value) (h : Buf w v xs) => hY (w := w) (xs := xs) (by omega) h)
  have hok : failOk xs = false := by
    unfold failOk
    rw [hq, Bool.and_false]
  rw [hok, show failV xs code = [] by unfold failV; rw [hok]; rfl] at FA
  rw [hq] at Y1
  clear hQ hF hY hb hok hq
  generalize strOfNums (qsV xs).1 = s1 at *
  generalize (qsV xs).2.1 = k1 at *
  generalize (qsV xs).2.2.2 = r1 at *
  generalize xs.length = n at *
  go_enter Tryd.func5, Tryd.ntmps5
  go_wp2_with fail
  refine (FA.out _ HG.out _ HB.out).mono ?_
  rintro e w3 ⟨u, rfl, h3, g9⟩
  replace HB := Lib.hid (HB.out.grew g9)
  replace HG := Lib.hid (HG.out.trans g9)
  clear g9
  obtain ⟨p3, c3, rfl, z3, _⟩ := h3.shape
  clear z3 h3
  rw [List.length_nil]
  go_wp2_with fail
  refine (Q1.out _ HG.out _ HB.out).mono ?_
  rintro e w4 ⟨rfl, g9⟩
  replace HB := Lib.hid (HB.out.grew g9)
  replace HG := Lib.hid (HG.out.trans g9)
  clear g9
  go_wp2_with fail
  refine (Y1.out _ _ HB.out).mono ?_
  rintro e w5 ⟨rfl, g9⟩
  replace HG := Lib.hid (HG.out.trans g9)
  clear g9
  go_wp2_with fail
  refine (hD HG.out (sn.grew HG.out)).mono ?_
  rintro e wh ⟨rfl, gh⟩
  go_wp2_with fail
  go_ret
  exact ⟨rfl, gh⟩
set_option maxHeartbeats 4000000 in
theorem walk_yes (hQ : QuestionC) (hI : IdC) (hY : QueryC) (hF : FailC) (hD : HeadC) {v : Value} {xs : List Int} (code : Int) (hcode : intI code) (h2 : xs.length ≤ 2000) (hok : failOk xs = true) {W : World} (sn : SenW W) (hb : Buf W v xs) :
    Calls Tryd.prog 5 #[v, .int .i64 code] W fun e w' => e = .returned (.bool true) ∧ Below W.heap.size W w' := by
  obtain ⟨a, c, rfl, _, _⟩ := hb.shape
  have HB := Lib.hid hb
  have HG := Lib.hid (Grew.refl W)
  have HXL : ¬ (2000 : Int) < ((xs.length : Nat) : Int) := by omega
  have FA := Lib.hid (fun (w : World) (g : Grew W w) (v : Value) (h : Buf w v xs) => hF (w := w) (xs := xs) code hcode (by omega) (sn.grew (g)) h)
  have Q1 := Lib.hid (fun (w : World) (g : Grew W w) (v : Value) (h : Buf w v xs) => hQ (w := w) (xs := xs) (by omega) (sn.grew (g)) h)
  have Y1 := Lib.hid (fun (w : World) (v : Value) (h : Buf w v xs) => hY (w := w) (xs := xs) (by omega) h)
  obtain ⟨e1, e2, e3, e4, e5, e6, e7⟩ := fail_facts code hok
  obtain ⟨o1, o2⟩ := failOk_spec hok
  have A15 := and15 code
  rw [hok, show failV xs code = failW xs code by unfold failV; rw [hok]; rfl] at FA
  rw [o1] at Q1
  have Q2 := Lib.hid (fun (w : World) (g : Grew W w) (v : Value) (h : Buf w v (failW xs code)) => hQ (w := w) (by omega) (sn.grew (g)) h)
  rw [e1, o1] at Q2
  have I1 := Lib.hid (fun (w : World) (v : Value) (h : Buf w v xs) => hI (w := w) (by omega) h)
  rw [e3] at I1
  have I2 := Lib.hid (fun (w : World) (v : Value) (h : Buf w v (failW xs code)) => hI (w := w) (by omega) h)
  rw [e2, e3] at I2
  have Y2 := Lib.hid (fun (w : World) (v : Value) (h : Buf w v (failW xs code)) => hY (w := w) (by omega) h)
  rw [e4] at Y2
  clear hQ hF hY hI hb hok e1 e2 e3 e4 o1 o2
  generalize strOfNums (qsV xs).1 = s1 at *
  generalize (qsV xs).2.1 = k1 at *
  generalize (idV xs).1 = i0 at *
  generalize failW xs code = fw at *
  have hle : (fw.length : Int) ≤ (xs.length : Int) := by omega
  have hl3 : (3 : Int) < (fw.length : Int) := by omega
  have H7 := Lib.hid e7
  have H6 := Lib.hid e6
  clear e5 e6 e7
  generalize xs.length = n at *
  go_enter Tryd.func5, Tryd.ntmps5
  go_wp2_with fail
  refine (FA.out _ HG.out _ HB.out).mono ?_
  rintro e w3 ⟨u, rfl, h3, g9⟩
  replace HB := Lib.hid (HB.out.grew g9)
  replace HG := Lib.hid (HG.out.trans g9)
  clear g9
  have HC := Lib.hid h3
  obtain ⟨pc, cc, rfl, z3, hat⟩ := h3.shape
  obtain ⟨bc, oc, rfl, hat2⟩ := hat (by intro h; have := H6.out; rw [h] at this; simp at this)
  have HAT := Lib.hid hat2
  clear z3 h3 hat hat2
  go_wp2_with fail
  refine (Q1.out _ HG.out _ HB.out).mono ?_
  rintro e w4 ⟨rfl, g9⟩
  replace HB := Lib.hid (HB.out.grew g9)
  replace HC := Lib.hid (HC.out.grew g9)
  replace HAT := Lib.hid (HAT.out.grew g9)
  replace HG := Lib.hid (HG.out.trans g9)
  clear g9
  go_wp2_with fail
  refine (Q2.out _ HG.out _ HC.out).mono ?_
  rintro e w5 ⟨rfl, g9⟩
  replace HB := Lib.hid (HB.out.grew g9)
  replace HC := Lib.hid (HC.out.grew g9)
  replace HAT := Lib.hid (HAT.out.grew g9)
  replace HG := Lib.hid (HG.out.trans g9)
  clear g9
  go_wp2_with fail
  refine (I1.out _ _ HB.out).mono ?_
  rintro e w6 ⟨rfl, g9⟩
  replace HB := Lib.hid (HB.out.grew g9)
  replace HC := Lib.hid (HC.out.grew g9)
  replace HAT := Lib.hid (HAT.out.grew g9)
  replace HG := Lib.hid (HG.out.trans g9)
  clear g9
  go_wp2_with fail
  refine (I2.out _ _ HC.out).mono ?_
  rintro e w7 ⟨rfl, g9⟩
  replace HB := Lib.hid (HB.out.grew g9)
  replace HC := Lib.hid (HC.out.grew g9)
  replace HAT := Lib.hid (HAT.out.grew g9)
  replace HG := Lib.hid (HG.out.trans g9)
  clear g9
  go_wp2_with fail
  refine (Y2.out _ _ HC.out).mono ?_
  rintro e w8 ⟨rfl, g9⟩
  replace HAT := Lib.hid (HAT.out.grew g9)
  replace HG := Lib.hid (HG.out.trans g9)
  clear g9
  have x3 := HAT.out 3 (by have := H6.out; omega)
  rw [H7.out] at x3
  have r16 : (128 + code % 16) % 16 = code % 16 := by omega
  have r16' : (128 + code % 16).tmod 16 = code % 16 := by rw [Int.tmod_eq_emod_of_nonneg (by omega)]; omega
  have w16 : IntKind.i64.wrap (code % 16) = code % 16 := IntWalk.i64_in _ (by omega)
  clear HAT
  generalize fw.length = m at *
  generalize code % 16 = k16 at *
  go_wp2_with fail
  refine (hD HG.out (sn.grew HG.out)).mono ?_
  rintro e wh ⟨rfl, gh⟩
  go_wp2_with fail
  go_ret
  exact ⟨rfl, gh⟩
theorem walk0 (hQ : QuestionC) (hA : AskC) (hI : IdC) (hWi : WithC) (hY : QueryC) (hF : FailC) (hD : HeadC) {v : Value} {xs : List Int} (code : Int) (hcode : intI code) {W : World} (sn : SenW W) (hb : Buf W v xs) :
    Calls Tryd.prog 5 #[v, .int .i64 code] W fun e w' => e = .returned (.bool true) ∧ Below W.heap.size W w' := by
  by_cases h2 : xs.length ≤ 2000
  · cases hok : failOk xs
    · cases he : ((qsV xs).2.2.2 != 0)
      · cases hq : qyV xs
        · exact walk_nob hQ hY hF hD code hcode h2 he hq sn hb
        · exfalso
          unfold failOk at hok
          rw [hq, Bool.and_true] at hok
          simp at he
          rw [he] at hok
          cases hok
      · exact walk_noa hQ hY hF hD code hcode h2 he sn hb
    · exact walk_yes hQ hI hY hF hD code hcode h2 hok sn hb
  · obtain ⟨a, c, rfl, _, _⟩ := hb.shape
    exact walk_f0 hD a _ c code (by omega) sn
theorem walk (v : Value) (xs : List Int) (code : Int) (hcode : intI code) {W : World} (sn : SenW W) (hb : Buf W v xs) :
    Calls Tryd.prog 5 #[v, .int .i64 code] W fun e w' => e = .returned (.bool true) ∧ Below W.heap.size W w' :=
  walk0 question21_c ask21_c id21_c with21_c query21_c fail21_c heads_c code hcode sn hb
set_option maxRecDepth 100000 in
theorem lifted (os : Os) (started : os.Started) (H : Type) (enc : TypeId × Value → H) :
    ReturnsInHanded {} Tryd.checked os 5 .any (fun w args => (Rows.dnsFailsSpec.pre enc Tryd.prog Tryd.f5 [] false w args ∧ laidMetH Tryd.prog laid4 w) ∧ sizedMet enc Tryd.prog Tryd.f5 (OpenSpec.ofChange Rows.dnsFailsSpec) false w args) (Rows.dnsFailsSpec.post enc Tryd.prog Tryd.f5 false true false false) := by
  refine returnsInHanded_of_change_and (C := Tryd.checked) (X := fun w _ => laidMetH Tryd.prog laid4 w) (fun _ _ _ hh h => h.of_heap hh) own started (by kernel_rfl) Tryd.func5
    (ChangeSpec.witness_shaped (enc := enc) (C := Tryd.checked) (os := os) (X := fun w _ => laidMetH Tryd.prog laid4 w) false (world4 os) #[.slice none 0 0, .int .i64 0] 8 rfl (World.shaped_of_RefB (by kernel_rfl) (by kernel_rfl)) (by kernel_rfl) (by kernel_rfl) (by kernel_rfl) (met4 os _)) ?_
  intro W base args ds gs before hval0 hW _ hz0 hL _
  obtain ⟨a0, a1, sn⟩ := sen4_of_laid hL
  have hval : ∀ (j : Nat) t v, Tryd.f5.params[j]? = some t → args[j]? = some v → Value.okWide Tryd.prog W .any base t v := hval0
  have hW' := hW
  obtain ⟨p, q, hA0, hV, rfl, hfz, hnd⟩ := hW
  have hA : DataW.TrodAll enc Tryd.prog W 0 (fun _ => true) true Tryd.f5.params.toList args.toList ds p := hA0
  rw [Tryd.params5] at hA hval
  obtain ⟨v0, vs0, d0, ds0, p0, q0, hargs, rfl, rfl, h0, r'0⟩ := trodAll_cons hA
  obtain ⟨v1, vs1, d1, ds1, p1, q1, rfl, rfl, rfl, h1, r'1⟩ := trodAll_cons r'0
  obtain ⟨rfl, rfl, rfl⟩ := trodAll_nil r'1
  obtain rfl : args = #[v0, v1] := by cases args; simp_all
  obtain ⟨x0, k0⟩ := open_buf Tryd.underlying22 Tryd.underlying5 (by kernel_rfl) (hval 0 22 v0 rfl rfl) h0
  obtain ⟨a1, rfl, rfl, rfl, w1⟩ := open_int Tryd.underlying3 (hval 1 3 v1 rfl rfl) h1
  refine (walk v0 x0 a1 (wf_i64 w1) sn k0).mono fun e W' ⟨he, hb⟩ => ?_
  subst he
  exact ⟨_, rfl, law_post hW' rfl rfl laid (by kernel_rfl) rfl Tryd.underlying4 hb⟩

theorem over : Rows.dnsFailsRow.holds Tryd.pinned (OpenSpec.ofChange Rows.dnsFailsSpec) :=
  OpenClaim.holds_of_wide 5 Tryd.f5 rfl rfl rfl rfl rfl rfl rfl ⟨rfl, rfl, rfl, rfl, rfl⟩ rfl rfl rfl rfl rfl (by kernel_rfl) Tryd.func5 (by kernel_rfl)
    (of_decide_eq_true (by kernel_rfl)) (by unfold Func.isWrapper; first | (rw [if_pos (by decide +kernel)]; kernel_rfl) | (rw [if_neg (by decide +kernel)]; exact ⟨rfl, rfl⟩))
    (fun os started H enc _ => lifted os started H enc)

theorem proved : Rows.DnsFailsCardSaid :=
  Claim7.holds_tied_plain_at .later [] Rows.dnsFailsCard.laidKinds true Rows.dnsFailsCard.stood.harness Rows.dnsFailsCard.stood.looks
    over (fun _ h => by cases h) (by kernel_rfl) (fun _ h => by cases h) dnsFails_row_tie rfl ⟨rfl, rfl⟩ (by kernel_rfl) rfl
    (fun f fn hf hfn => by
      obtain rfl : f = 5 := Option.some.inj ((show Tryd.prog.funcNamed "drawbridge/drawbridgelaw21.DnsFails" = some 5 by kernel_rfl).symm.trans hf) |>.symm
      obtain rfl : fn = Tryd.f5 := (Option.some.inj (Tryd.func5.symm.trans hfn)).symm
      exact ⟨by kernel_rfl, fun j t ht => by
        have hall : (Tryd.f5.params.toList.all fun u => !Tryd.prog.wantsStandIn u) = true := by kernel_rfl
        have hm : t ∈ Tryd.f5.params.toList := by simpa using Array.mem_of_getElem? ht
        exact (show Tryd.prog.wantsStandIn t = false by simpa using List.all_eq_true.1 hall t hm)⟩)
    (by kernel_rfl)
#print axioms proved
end Go.Proofs.YtnafdgpkofffaaaDoor.dnsFails
