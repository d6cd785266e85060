/-
  The statement DnsWith: that another number changes just that, and back again nothing: for every bytes and number. Conditions: none but those of the statement's row (the package variables as the text lays them).
-/
import Derived.Test.YtnafdgpkofffaaaDoorDnH
import Derived.Test.YtnafdgpkofffaaaDoorDnW
import Derived.Test.YtnafdgpkofffaaaDoorDnS
import Derived.Test.YtnafdgpkofffaaaDoorLaw
import Derived.Test.YtnafdgpkofffaaaDoorDnL
import Derived.Test.YtnafdgpkofffaaaDoorCards
import Derived.Test.YtnafdgpkofffaaaDoorTie
import Derived.SevenTiedAt
set_option maxRecDepth 4000
set_option linter.unusedVariables false
set_option linter.unusedSimpArgs false
namespace Go.Proofs.YtnafdgpkofffaaaDoor.dnsWith
open Go.ChangeShapes Go.WideShapes Go.ChangeAt Go.RowKit

theorem walk_f0 (hD : HeadC) (a : Option Addr) (n c : Nat) (id : Int) (h1 : (2000 : Int) < (n : Int)) {W : World} (sn : SenW W) :
    Calls Tryd.prog 4 #[.slice a n c, .int .i64 id] W fun e w' => e = .returned (.bool true) ∧ Below W.heap.size W w' := by
  have HG := Lib.hid (Grew.refl W)
  go_enter Tryd.func4, Tryd.ntmps4
  go_wp2_with fail
  refine (hD HG.out (sn.grew HG.out)).mono ?_
  rintro e wh ⟨rfl, gh⟩
  go_wp2_with fail
  go_ret
  exact ⟨rfl, gh⟩
theorem walk_f1 (hD : HeadC) (a : Option Addr) (n c : Nat) (id : Int) (h1 : ¬ (2000 : Int) < (n : Int)) (h2 : id < 0) {W : World} (sn : SenW W) :
    Calls Tryd.prog 4 #[.slice a n c, .int .i64 id] W fun e w' => e = .returned (.bool true) ∧ Below W.heap.size W w' := by
  have HG := Lib.hid (Grew.refl W)
  go_enter Tryd.func4, Tryd.ntmps4
  go_wp2_with fail
  refine (hD HG.out (sn.grew HG.out)).mono ?_
  rintro e wh ⟨rfl, gh⟩
  go_wp2_with fail
  go_ret
  exact ⟨rfl, gh⟩
theorem walk_f2 (hD : HeadC) (a : Option Addr) (n c : Nat) (id : Int) (h1 : ¬ (2000 : Int) < (n : Int)) (h2 : ¬ id < 0) (h3 : 65535 < id) {W : World} (sn : SenW W) :
    Calls Tryd.prog 4 #[.slice a n c, .int .i64 id] W fun e w' => e = .returned (.bool true) ∧ Below W.heap.size W w' := by
  have HG := Lib.hid (Grew.refl W)
  go_enter Tryd.func4, Tryd.ntmps4
  go_wp2_with fail
  refine (hD HG.out (sn.grew HG.out)).mono ?_
  rintro e wh ⟨rfl, gh⟩
  go_wp2_with fail
  go_ret
  exact ⟨rfl, gh⟩
set_option maxHeartbeats 2000000 in
theorem walk_no (hI : IdC) (hWi : WithC) (hD : HeadC) {v : Value} {xs : List Int} (id : Int) (h0 : 0 ≤ id) (h1 : id ≤ 65535) (h2 : xs.length ≤ 2000) (h12 : xs.length < 12) {W : World} (sn : SenW W) (hb : Buf W v xs) :
    Calls Tryd.prog 4 #[v, .int .i64 id] W fun e w' => e = .returned (.bool true) ∧ Below W.heap.size W w' := by
  obtain ⟨a, c, rfl, _, _⟩ := hb.shape
  have HB := Lib.hid hb
  have HG := Lib.hid (Grew.refl W)
  have HXL : ¬ (2000 : Int) < ((xs.length : Nat) : Int) := by omega
  have hid0 : ¬ id < 0 := by omega
  have hid1 : ¬ 65535 < id := by omega
  have V := Lib.hid (fun (w : World) (v : Value) (h : Buf w v xs) => hWi (w := w) (xs := xs) id (by unfold intI; omega) (by omega) h)
  have I := Lib.hid (fun (w : World) (v : Value) (h : Buf w v xs) => hI (w := w) (xs := xs) (by omega) h)
  rw [show withV xs id = xs by unfold withV; rw [if_pos h12]] at V
  rw [show idV xs = (0, false) by unfold idV; rw [if_pos h12]] at I
  clear hWi hI hb h12
  generalize xs.length = n at *
  go_enter Tryd.func4, Tryd.ntmps4
  go_wp2_with fail
  refine (V.out _ _ HB.out).mono ?_
  rintro e w3 ⟨u, rfl, h3, g9⟩
  replace HB := Lib.hid (HB.out.grew g9)
  replace HG := Lib.hid (HG.out.trans g9)
  clear g9
  obtain ⟨pC, cC, rfl, _, _⟩ := h3.shape
  have HC := Lib.hid h3
  clear h3
  go_wp2_with fail
  refine (I.out _ _ HB.out).mono ?_
  rintro e w4 ⟨rfl, g9⟩
  replace HB := Lib.hid (HB.out.grew g9)
  replace HC := Lib.hid (HC.out.grew g9)
  replace HG := Lib.hid (HG.out.trans g9)
  clear g9
  go_wp2_with fail
  refine (sameT HC.out HB.out).mono ?_
  rintro e w5 ⟨rfl, g9⟩
  replace HG := Lib.hid (HG.out.trans g9)
  clear g9
  go_wp2_with fail
  refine (hD HG.out (sn.grew HG.out)).mono ?_
  rintro e wh ⟨rfl, gh⟩
  go_wp2_with fail
  go_ret
  exact ⟨rfl, gh⟩
set_option maxHeartbeats 4000000 in
theorem walk_yes (hQ : QuestionC) (hI : IdC) (hWi : WithC) (hY : QueryC) (hD : HeadC) {v : Value} {xs : List Int} (id : Int) (h0 : 0 ≤ id) (h1 : id ≤ 65535) (h2 : xs.length ≤ 2000) (h12 : ¬ xs.length < 12) {W : World} (sn : SenW W) (hb : Buf W v xs) :
    Calls Tryd.prog 4 #[v, .int .i64 id] W fun e w' => e = .returned (.bool true) ∧ Below W.heap.size W w' := by
  obtain ⟨a, c, rfl, _, _⟩ := hb.shape
  have HB := Lib.hid hb
  have HG := Lib.hid (Grew.refl W)
  have HXL : ¬ (2000 : Int) < ((xs.length : Nat) : Int) := by omega
  have hid0 : ¬ id < 0 := by omega
  have hid1 : ¬ 65535 < id := by omega
  have V := Lib.hid (fun (w : World) (v : Value) (h : Buf w v xs) => hWi (w := w) (xs := xs) id (by unfold intI; omega) (by omega) h)
  have I := Lib.hid (fun (w : World) (v : Value) (h : Buf w v xs) => hI (w := w) (xs := xs) (by omega) h)
  obtain ⟨e1, e2, e3, e4, e5⟩ := withV_facts (id := id) (show 12 ≤ xs.length by omega) h0 h1 hb.ok
  have e6 : (withV xs id).length = xs.length := (withV_spec xs id (by omega)).1
  have C1 := Lib.hid (fun (w : World) (v : Value) (h : Buf w v (withV xs id)) => hI (w := w) (by omega) h)
  rw [e1] at C1
  have Q1 := Lib.hid (fun (w : World) (g : Grew W w) (v : Value) (h : Buf w v xs) => hQ (w := w) (by omega) (sn.grew (g)) h)
  have Q2 := Lib.hid (fun (w : World) (g : Grew W w) (v : Value) (h : Buf w v (withV xs id)) => hQ (w := w) (by omega) (sn.grew (g)) h)
  rw [e2] at Q2
  have V2 := Lib.hid (fun (w : World) (v : Value) (h : Buf w v (withV xs id)) => hWi (w := w) (idV xs).1 (by
    have : 0 ≤ (idV xs).1 ∧ (idV xs).1 < 65536 := by
      unfold idV
      rw [if_neg (by omega)]
      have := getG_lt (hb.ok.cut 0 2) true (n := 2) (by rw [cutL_length (by omega) (by omega)]) (by omega)
      rwa [show (2 : Int) ^ (8 * 2) = 65536 by decide] at this
    unfold intI
    omega) (by omega) h)
  rw [e4] at V2
  have Y1 := Lib.hid (fun (w : World) (v : Value) (h : Buf w v xs) => hY (w := w) (by omega) h)
  have Y2 := Lib.hid (fun (w : World) (v : Value) (h : Buf w v (withV xs id)) => hY (w := w) (by omega) h)
  rw [e3] at Y2
  rw [e5] at I
  clear hWi hI hQ hY hb h12 e1 e2 e3 e4 e5 e6
  generalize strOfNums (qsV xs).1 = s1 at *
  generalize (qsV xs).2.1 = k1 at *
  generalize (qsV xs).2.2.2 = r1 at *
  generalize (idV xs).1 = i0 at *
  generalize qyV xs = qy at *
  generalize withV xs id = wv at *
  generalize xs.length = n at *
  go_enter Tryd.func4, Tryd.ntmps4
  go_wp2_with fail
  refine (V.out _ _ HB.out).mono ?_
  rintro e w3 ⟨u, rfl, h3, g9⟩
  replace HB := Lib.hid (HB.out.grew g9)
  replace HG := Lib.hid (HG.out.trans g9)
  clear g9
  obtain ⟨pC, cC, rfl, _, _⟩ := h3.shape
  have HC := Lib.hid h3
  clear h3
  go_wp2_with fail
  refine (I.out _ _ HB.out).mono ?_
  rintro e w4 ⟨rfl, g9⟩
  replace HB := Lib.hid (HB.out.grew g9)
  replace HC := Lib.hid (HC.out.grew g9)
  replace HG := Lib.hid (HG.out.trans g9)
  clear g9
  go_wp2_with fail
  refine (C1.out _ _ HC.out).mono ?_
  rintro e w5 ⟨rfl, g9⟩
  replace HB := Lib.hid (HB.out.grew g9)
  replace HC := Lib.hid (HC.out.grew g9)
  replace HG := Lib.hid (HG.out.trans g9)
  clear g9
  go_wp2_with fail
  refine (Q1.out _ HG.out _ HB.out).mono ?_
  rintro e w6 ⟨rfl, g9⟩
  replace HB := Lib.hid (HB.out.grew g9)
  replace HC := Lib.hid (HC.out.grew g9)
  replace HG := Lib.hid (HG.out.trans g9)
  clear g9
  go_wp2_with fail
  refine (Q2.out _ HG.out _ HC.out).mono ?_
  rintro e w7 ⟨rfl, g9⟩
  replace HB := Lib.hid (HB.out.grew g9)
  replace HC := Lib.hid (HC.out.grew g9)
  replace HG := Lib.hid (HG.out.trans g9)
  clear g9
  go_wp2_with fail
  refine (V2.out _ _ HC.out).mono ?_
  rintro e w8 ⟨u, rfl, h8, g9⟩
  replace HB := Lib.hid (HB.out.grew g9)
  replace HC := Lib.hid (HC.out.grew g9)
  replace HG := Lib.hid (HG.out.trans g9)
  clear g9
  obtain ⟨pD, cD, rfl, _, _⟩ := h8.shape
  have HD := Lib.hid h8
  clear h8
  go_wp2_with fail
  refine (sameT HD.out HB.out).mono ?_
  rintro e w9 ⟨rfl, g9⟩
  replace HB := Lib.hid (HB.out.grew g9)
  replace HC := Lib.hid (HC.out.grew g9)
  replace HG := Lib.hid (HG.out.trans g9)
  clear g9
  go_wp2_with fail
  refine (Y1.out _ _ HB.out).mono ?_
  rintro e w10 ⟨rfl, g9⟩
  replace HC := Lib.hid (HC.out.grew g9)
  replace HG := Lib.hid (HG.out.trans g9)
  clear g9
  go_wp2_with fail
  refine (Y2.out _ _ HC.out).mono ?_
  rintro e w11 ⟨rfl, g9⟩
  replace HG := Lib.hid (HG.out.trans g9)
  clear g9
  go_wp2_with fail
  refine (hD HG.out (sn.grew HG.out)).mono ?_
  rintro e wh ⟨rfl, gh⟩
  go_wp2_with fail
  go_ret
  exact ⟨rfl, gh⟩
theorem walk0 (hQ : QuestionC) (hA : AskC) (hI : IdC) (hWi : WithC) (hY : QueryC) (hF : FailC) (hD : HeadC) {v : Value} {xs : List Int} (id : Int) {W : World} (sn : SenW W) (hb : Buf W v xs) :
    Calls Tryd.prog 4 #[v, .int .i64 id] W fun e w' => e = .returned (.bool true) ∧ Below W.heap.size W w' := by
  by_cases h2 : xs.length ≤ 2000
  · by_cases h0 : id < 0
    · obtain ⟨a, c, rfl, _, _⟩ := hb.shape
      exact walk_f1 hD a _ c id (by omega) h0 sn
    · by_cases h1 : 65535 < id
      · obtain ⟨a, c, rfl, _, _⟩ := hb.shape
        exact walk_f2 hD a _ c id (by omega) h0 h1 sn
      · by_cases h12 : xs.length < 12
        · exact walk_no hI hWi hD id (by omega) (by omega) h2 h12 sn hb
        · exact walk_yes hQ hI hWi hY hD id (by omega) (by omega) h2 h12 sn hb
  · obtain ⟨a, c, rfl, _, _⟩ := hb.shape
    exact walk_f0 hD a _ c id (by omega) sn
theorem walk (v : Value) (xs : List Int) (id : Int) (_hid : intI id) {W : World} (sn : SenW W) (hb : Buf W v xs) :
    Calls Tryd.prog 4 #[v, .int .i64 id] W fun e w' => e = .returned (.bool true) ∧ Below W.heap.size W w' :=
  walk0 question21_c ask21_c id21_c with21_c query21_c fail21_c heads_c id sn hb
set_option maxRecDepth 100000 in
theorem lifted (os : Os) (started : os.Started) (H : Type) (enc : TypeId × Value → H) :
    ReturnsInHanded {} Tryd.checked os 4 .any (fun w args => (Rows.dnsWithSpec.pre enc Tryd.prog Tryd.f4 [] false w args ∧ laidMetH Tryd.prog laid4 w) ∧ sizedMet enc Tryd.prog Tryd.f4 (OpenSpec.ofChange Rows.dnsWithSpec) false w args) (Rows.dnsWithSpec.post enc Tryd.prog Tryd.f4 false true false false) := by
  refine returnsInHanded_of_change_and (C := Tryd.checked) (X := fun w _ => laidMetH Tryd.prog laid4 w) (fun _ _ _ hh h => h.of_heap hh) own started (by kernel_rfl) Tryd.func4
    (ChangeSpec.witness_shaped (enc := enc) (C := Tryd.checked) (os := os) (X := fun w _ => laidMetH Tryd.prog laid4 w) false (world4 os) #[.slice none 0 0, .int .i64 0] 8 rfl (World.shaped_of_RefB (by kernel_rfl) (by kernel_rfl)) (by kernel_rfl) (by kernel_rfl) (by kernel_rfl) (met4 os _)) ?_
  intro W base args ds gs before hval0 hW _ hz0 hL _
  obtain ⟨a0, a1, sn⟩ := sen4_of_laid hL
  have hval : ∀ (j : Nat) t v, Tryd.f4.params[j]? = some t → args[j]? = some v → Value.okWide Tryd.prog W .any base t v := hval0
  have hW' := hW
  obtain ⟨p, q, hA0, hV, rfl, hfz, hnd⟩ := hW
  have hA : DataW.TrodAll enc Tryd.prog W 0 (fun _ => true) true Tryd.f4.params.toList args.toList ds p := hA0
  rw [Tryd.params4] at hA hval
  obtain ⟨v0, vs0, d0, ds0, p0, q0, hargs, rfl, rfl, h0, r'0⟩ := trodAll_cons hA
  obtain ⟨v1, vs1, d1, ds1, p1, q1, rfl, rfl, rfl, h1, r'1⟩ := trodAll_cons r'0
  obtain ⟨rfl, rfl, rfl⟩ := trodAll_nil r'1
  obtain rfl : args = #[v0, v1] := by cases args; simp_all
  obtain ⟨x0, k0⟩ := open_buf Tryd.underlying22 Tryd.underlying5 (by kernel_rfl) (hval 0 22 v0 rfl rfl) h0
  obtain ⟨a1, rfl, rfl, rfl, w1⟩ := open_int Tryd.underlying3 (hval 1 3 v1 rfl rfl) h1
  refine (walk v0 x0 a1 (wf_i64 w1) sn k0).mono fun e W' ⟨he, hb⟩ => ?_
  subst he
  exact ⟨_, rfl, law_post hW' rfl rfl laid (by kernel_rfl) rfl Tryd.underlying4 hb⟩

theorem over : Rows.dnsWithRow.holds Tryd.pinned (OpenSpec.ofChange Rows.dnsWithSpec) :=
  OpenClaim.holds_of_wide 4 Tryd.f4 rfl rfl rfl rfl rfl rfl rfl ⟨rfl, rfl, rfl, rfl, rfl⟩ rfl rfl rfl rfl rfl (by kernel_rfl) Tryd.func4 (by kernel_rfl)
    (of_decide_eq_true (by kernel_rfl)) (by unfold Func.isWrapper; first | (rw [if_pos (by decide +kernel)]; kernel_rfl) | (rw [if_neg (by decide +kernel)]; exact ⟨rfl, rfl⟩))
    (fun os started H enc _ => lifted os started H enc)

theorem proved : Rows.DnsWithCardSaid :=
  Claim7.holds_tied_plain_at .later [] Rows.dnsWithCard.laidKinds true Rows.dnsWithCard.stood.harness Rows.dnsWithCard.stood.looks
    over (fun _ h => by cases h) (by kernel_rfl) (fun _ h => by cases h) dnsWith_row_tie rfl ⟨rfl, rfl⟩ (by kernel_rfl) rfl
    (fun f fn hf hfn => by
      obtain rfl : f = 4 := Option.some.inj ((show Tryd.prog.funcNamed "drawbridge/drawbridgelaw21.DnsWith" = some 4 by kernel_rfl).symm.trans hf) |>.symm
      obtain rfl : fn = Tryd.f4 := (Option.some.inj (Tryd.func4.symm.trans hfn)).symm
      exact ⟨by kernel_rfl, fun j t ht => by
        have hall : (Tryd.f4.params.toList.all fun u => !Tryd.prog.wantsStandIn u) = true := by kernel_rfl
        have hm : t ∈ Tryd.f4.params.toList := by simpa using Array.mem_of_getElem? ht
        exact (show Tryd.prog.wantsStandIn t = false by simpa using List.all_eq_true.1 hall t hm)⟩)
    (by kernel_rfl)
#print axioms proved
end Go.Proofs.YtnafdgpkofffaaaDoor.dnsWith
