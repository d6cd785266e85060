/-
  The statement DnsTells: which name bytes ask for, what is asked for a name, and what fails: for every bytes, text and numbers. Conditions: none but those of the statement's row (the package variables as the text lays them).
-/
import Derived.Test.YtnafdgpkofffaaaGreatDoorDnH
import Derived.Test.YtnafdgpkofffaaaGreatDoorDnW
import Derived.Test.YtnafdgpkofffaaaGreatDoorDnS
import Derived.Test.YtnafdgpkofffaaaGreatDoorLaw
import Derived.Test.YtnafdgpkofffaaaGreatDoorDnL
import Derived.Test.YtnafdgpkofffaaaGreatDoorCards
import Derived.Test.YtnafdgpkofffaaaGreatDoorTie
import Derived.SevenTiedAt
set_option maxRecDepth 4000
set_option linter.unusedVariables false
set_option linter.unusedSimpArgs false
namespace Go.Proofs.YtnafdgpkofffaaaGreatDoor.dnsTells
open Go.ChangeShapes Go.WideShapes Go.ChangeAt Go.RowKit

theorem walk_f0 (hD : HeadC) (a : Option Addr) (n c : Nat) (s : ByteArray) (id kind : Int) (h1 : (2000 : Int) < (n : Int)) {W : World} (sn : SenW W) :
    Calls Tryz.prog 3 #[.slice a n c, .string s, .int .i64 id, .int .i64 kind] W fun e w' => e = .returned (.bool true) ∧ Below W.heap.size W w' := by
  have HG := Lib.hid (Grew.refl W)
  go_enter Tryz.func3, Tryz.ntmps3
  go_wp2_with fail
  refine (hD HG.out (sn.grew HG.out)).mono ?_
  rintro e wh ⟨rfl, gh⟩
  go_wp2_with fail
  go_ret
  exact ⟨rfl, gh⟩
theorem walk_f1 (hD : HeadC) (a : Option Addr) (n c : Nat) (s : ByteArray) (id kind : Int) (h1 : ¬ (2000 : Int) < (n : Int)) (h2 : (2000 : Int) < (s.size : Int)) {W : World} (sn : SenW W) :
    Calls Tryz.prog 3 #[.slice a n c, .string s, .int .i64 id, .int .i64 kind] W fun e w' => e = .returned (.bool true) ∧ Below W.heap.size W w' := by
  have HG := Lib.hid (Grew.refl W)
  go_enter Tryz.func3, Tryz.ntmps3
  go_wp2_with fail
  refine (hD HG.out (sn.grew HG.out)).mono ?_
  rintro e wh ⟨rfl, gh⟩
  go_wp2_with fail
  go_ret
  exact ⟨rfl, gh⟩
set_option maxHeartbeats 4000000 in
theorem walk_yes (hQ : QuestionC) (hA : AskC) (hI : IdC) (hWi : WithC) (hY : QueryC) (hF : FailC) (hD : HeadC) {v : Value} {xs ys : List Int} (id kind : Int) (hid : intI id) (hkind : intI kind) (h1 : xs.length ≤ 2000) (h2 : ys.length ≤ 2000) (hyo : AreBytes ys) {W : World} (sn : SenW W) (hb : Buf W v xs) :
    Calls Tryz.prog 3 #[v, .string (strOfNums ys), .int .i64 id, .int .i64 kind] W fun e w' => e = .returned (.bool true) ∧ Below W.heap.size W w' := by
  obtain ⟨a, c, rfl, _, _⟩ := hb.shape
  have hsz : (strOfNums ys).size = ys.length := strOf_size ys
  have HB := Lib.hid hb
  have q1 := Lib.hid (fun (w : World) (g : Grew W w) => hQ (w := w) (xs := xs) (by omega) (sn.grew g) (hb.grew g))
  have q2 := Lib.hid (fun (w : World) (g : Grew W w) => refQuestion_c (w := w) (xs := xs) (by omega) (hb.grew g))
  have a1 := Lib.hid (fun (w : World) (g : Grew W w) => hA (w := w) (xs := ys) id kind hid hkind hyo (by omega) (sn.grew g))
  have a2 := Lib.hid (fun (w : World) (g : Grew W w) => refAsk_c (xs := ys) id kind hyo (by omega) w)
  have i1 := Lib.hid (fun (w : World) (g : Grew W w) => hI (w := w) (xs := xs) (by omega) (hb.grew g))
  have i2 := Lib.hid (fun (w : World) (g : Grew W w) => refId_c (w := w) (xs := xs) (hb.grew g))
  have f1 := Lib.hid (fun (w : World) (g : Grew W w) => hF (w := w) (xs := xs) kind hkind (by omega) (sn.grew g) (hb.grew g))
  have f2 := Lib.hid (fun (w : World) (g : Grew W w) => refFail_c (w := w) (xs := xs) kind (by omega) (hb.grew g))
  have v1 := Lib.hid (fun (w : World) (g : Grew W w) => hWi (w := w) (xs := xs) id hid (by omega) (hb.grew g))
  have v2 := Lib.hid (fun (w : World) (g : Grew W w) => refWith_c (w := w) (xs := xs) id hid (by omega) (hb.grew g))
  have y1 := Lib.hid (fun (w : World) (g : Grew W w) => hY (w := w) (xs := xs) (by omega) (hb.grew g))
  have y2 := Lib.hid (fun (w : World) (g : Grew W w) => refQuery_c (w := w) (xs := xs) (hb.grew g))
  have HG := Lib.hid (Grew.refl W)
  have HYL : ¬ (2000 : Int) < ((ys.length : Nat) : Int) := by omega
  have HXL : ¬ (2000 : Int) < ((xs.length : Nat) : Int) := by omega
  clear hQ hA hI hWi hY hF hb hyo
  generalize strOfNums (qsV xs).1 = s1 at *
  generalize (qsV xs).2.1 = k1 at *
  generalize (qsV xs).2.2.2 = e1 at *
  generalize askE id ys kind = e2 at *
  generalize askV id ys kind = av at *
  generalize (idV xs).1 = i0 at *
  generalize (idV xs).2 = ib at *
  generalize failOk xs = fo at *
  generalize failV xs kind = fv at *
  generalize withV xs id = wv at *
  generalize qyV xs = qy at *
  generalize strOfNums ys = st at *
  generalize xs.length = n at *
  generalize ys.length = m at *
  go_enter Tryz.func3, Tryz.ntmps3
  go_wp2_with fail
  refine (q1.out _ HG.out).mono ?_
  rintro e w1 ⟨rfl, g9⟩
  replace HG := Lib.hid (HG.out.trans g9)
  clear g9
  go_wp2_with fail
  refine (q2.out _ HG.out).mono ?_
  rintro e w2 ⟨rfl, g9⟩
  replace HG := Lib.hid (HG.out.trans g9)
  clear g9
  go_wp2_with fail
  refine (a1.out _ HG.out).mono ?_
  rintro e w3 ⟨u, rfl, h3, g9⟩
  replace HG := Lib.hid (HG.out.trans g9)
  clear g9
  obtain ⟨pA, cA, rfl, _, _⟩ := h3.shape
  have HA := Lib.hid h3
  clear h3
  go_wp2_with fail
  refine (a2.out _ HG.out).mono ?_
  rintro e w4 ⟨u, rfl, h4, g9⟩
  replace HA := Lib.hid (HA.out.grew g9)
  replace HG := Lib.hid (HG.out.trans g9)
  clear g9
  obtain ⟨pB2, cB2, rfl, _, _⟩ := h4.shape
  have HB2 := Lib.hid h4
  clear h4
  go_wp2_with fail
  refine (i1.out _ HG.out).mono ?_
  rintro e w5 ⟨rfl, g9⟩
  replace HA := Lib.hid (HA.out.grew g9)
  replace HB2 := Lib.hid (HB2.out.grew g9)
  replace HG := Lib.hid (HG.out.trans g9)
  clear g9
  go_wp2_with fail
  refine (i2.out _ HG.out).mono ?_
  rintro e w6 ⟨rfl, g9⟩
  replace HA := Lib.hid (HA.out.grew g9)
  replace HB2 := Lib.hid (HB2.out.grew g9)
  replace HG := Lib.hid (HG.out.trans g9)
  clear g9
  go_wp2_with fail
  refine (f1.out _ HG.out).mono ?_
  rintro e w7 ⟨u, rfl, h7, g9⟩
  replace HA := Lib.hid (HA.out.grew g9)
  replace HB2 := Lib.hid (HB2.out.grew g9)
  replace HG := Lib.hid (HG.out.trans g9)
  clear g9
  obtain ⟨pF, cF, rfl, _, _⟩ := h7.shape
  have HF := Lib.hid h7
  clear h7
  go_wp2_with fail
  refine (f2.out _ HG.out).mono ?_
  rintro e w8 ⟨u, rfl, h8, g9⟩
  replace HA := Lib.hid (HA.out.grew g9)
  replace HB2 := Lib.hid (HB2.out.grew g9)
  replace HF := Lib.hid (HF.out.grew g9)
  replace HG := Lib.hid (HG.out.trans g9)
  clear g9
  obtain ⟨pF2, cF2, rfl, _, _⟩ := h8.shape
  have HF2 := Lib.hid h8
  clear h8
  go_wp2_with fail
  refine (sameT HA.out HB2.out).mono ?_
  rintro e w9 ⟨rfl, g9⟩
  replace HF := Lib.hid (HF.out.grew g9)
  replace HF2 := Lib.hid (HF2.out.grew g9)
  replace HG := Lib.hid (HG.out.trans g9)
  clear g9
  go_wp2_with fail
  refine (sameT HF.out HF2.out).mono ?_
  rintro e w10 ⟨rfl, g9⟩
  replace HG := Lib.hid (HG.out.trans g9)
  clear g9
  go_wp2_with fail
  refine (v1.out _ HG.out).mono ?_
  rintro e w11 ⟨u, rfl, h11, g9⟩
  replace HG := Lib.hid (HG.out.trans g9)
  clear g9
  obtain ⟨pV, cV, rfl, _, _⟩ := h11.shape
  have HV := Lib.hid h11
  clear h11
  go_wp2_with fail
  refine (v2.out _ HG.out).mono ?_
  rintro e w12 ⟨u, rfl, h12, g9⟩
  replace HV := Lib.hid (HV.out.grew g9)
  replace HG := Lib.hid (HG.out.trans g9)
  clear g9
  obtain ⟨pV2, cV2, rfl, _, _⟩ := h12.shape
  have HV2 := Lib.hid h12
  clear h12
  go_wp2_with fail
  refine (sameT HV.out HV2.out).mono ?_
  rintro e w13 ⟨rfl, g9⟩
  replace HG := Lib.hid (HG.out.trans g9)
  clear g9
  go_wp2_with fail
  refine (y1.out _ HG.out).mono ?_
  rintro e w14 ⟨rfl, g9⟩
  replace HG := Lib.hid (HG.out.trans g9)
  clear g9
  go_wp2_with fail
  refine (y2.out _ HG.out).mono ?_
  rintro e wx ⟨rfl, hx⟩
  obtain rfl := hx.symm
  go_wp2_with fail
  refine (hD HG.out (sn.grew HG.out)).mono ?_
  rintro e wh ⟨rfl, gh⟩
  go_wp2_with fail
  go_ret
  exact ⟨rfl, gh⟩
theorem walk0 (hQ : QuestionC) (hA : AskC) (hI : IdC) (hWi : WithC) (hY : QueryC) (hF : FailC) (hD : HeadC) {v : Value} {xs ys : List Int} (id kind : Int) (hid : intI id) (hkind : intI kind) (hyo : AreBytes ys) {W : World} (sn : SenW W) (hb : Buf W v xs) :
    Calls Tryz.prog 3 #[v, .string (strOfNums ys), .int .i64 id, .int .i64 kind] W fun e w' => e = .returned (.bool true) ∧ Below W.heap.size W w' := by
  have hsz : (strOfNums ys).size = ys.length := strOf_size ys
  by_cases h1 : xs.length ≤ 2000
  · by_cases h2 : ys.length ≤ 2000
    · exact walk_yes hQ hA hI hWi hY hF hD id kind hid hkind h1 h2 hyo sn hb
    · obtain ⟨a, c, rfl, _, _⟩ := hb.shape
      exact walk_f1 hD a _ c _ id kind (by omega) (by omega) sn
  · obtain ⟨a, c, rfl, _, _⟩ := hb.shape
    exact walk_f0 hD a _ c _ id kind (by omega) sn
theorem walk (v : Value) (xs : List Int) (ys : List Int) (id : Int) (hid : intI id) (kind : Int) (hkind : intI kind) {W : World} (sn : SenW W) (hb : Buf W v xs) (hy : AreBytes ys ∧ ys.length ≤ maxLen) :
    Calls Tryz.prog 3 #[v, .string (strOfNums ys), .int .i64 id, .int .i64 kind] W fun e w' => e = .returned (.bool true) ∧ Below W.heap.size W w' :=
  walk0 question21_c ask21_c id21_c with21_c query21_c fail21_c heads_c id kind hid hkind hy.1 sn hb
set_option maxRecDepth 100000 in
theorem lifted (os : Os) (started : os.Started) (H : Type) (enc : TypeId × Value → H) :
    ReturnsInHanded {} Tryz.checked os 3 .any (fun w args => (Rows.dnsTellsSpec.pre enc Tryz.prog Tryz.f3 [] false w args ∧ laidMetH Tryz.prog laid4 w) ∧ sizedMet enc Tryz.prog Tryz.f3 (OpenSpec.ofChange Rows.dnsTellsSpec) false w args) (Rows.dnsTellsSpec.post enc Tryz.prog Tryz.f3 false true false false) := by
  refine returnsInHanded_of_change_and (C := Tryz.checked) (X := fun w _ => laidMetH Tryz.prog laid4 w) (fun _ _ _ hh h => h.of_heap hh) own started (by kernel_rfl) Tryz.func3
    (ChangeSpec.witness_shaped (enc := enc) (C := Tryz.checked) (os := os) (X := fun w _ => laidMetH Tryz.prog laid4 w) false (world4 os) #[.slice none 0 0, .string ⟨#[]⟩, .int .i64 0, .int .i64 0] 8 rfl (World.shaped_of_RefB (by kernel_rfl) (by kernel_rfl)) (by kernel_rfl) (by kernel_rfl) (by kernel_rfl) (met4 os _)) ?_
  intro W base args ds gs before hval0 hW _ hz0 hL _
  obtain ⟨a0, a1, sn⟩ := sen4_of_laid hL
  have hval : ∀ (j : Nat) t v, Tryz.f3.params[j]? = some t → args[j]? = some v → Value.okWide Tryz.prog W .any base t v := hval0
  have hW' := hW
  obtain ⟨p, q, hA0, hV, rfl, hfz, hnd⟩ := hW
  have hA : DataW.TrodAll enc Tryz.prog W 0 (fun _ => true) true Tryz.f3.params.toList args.toList ds p := hA0
  rw [Tryz.params3] at hA hval
  obtain ⟨v0, vs0, d0, ds0, p0, q0, hargs, rfl, rfl, h0, r'0⟩ := trodAll_cons hA
  obtain ⟨v1, vs1, d1, ds1, p1, q1, rfl, rfl, rfl, h1, r'1⟩ := trodAll_cons r'0
  obtain ⟨v2, vs2, d2, ds2, p2, q2, rfl, rfl, rfl, h2, r'2⟩ := trodAll_cons r'1
  obtain ⟨v3, vs3, d3, ds3, p3, q3, rfl, rfl, rfl, h3, r'3⟩ := trodAll_cons r'2
  obtain ⟨rfl, rfl, rfl⟩ := trodAll_nil r'3
  obtain rfl : args = #[v0, v1, v2, v3] := by cases args; simp_all
  obtain ⟨x0, k0⟩ := open_buf Tryz.underlying22 Tryz.underlying5 (by kernel_rfl) (hval 0 22 v0 rfl rfl) h0
  obtain ⟨x1, rfl, y1⟩ := open_str (hval 1 9 v1 rfl rfl) h1
  obtain ⟨a2, rfl, rfl, rfl, w2⟩ := open_int Tryz.underlying3 (hval 2 3 v2 rfl rfl) h2
  obtain ⟨a3, rfl, rfl, rfl, w3⟩ := open_int Tryz.underlying3 (hval 3 3 v3 rfl rfl) h3
  refine (walk v0 x0 x1 a2 (wf_i64 w2) a3 (wf_i64 w3) sn k0 y1).mono fun e W' ⟨he, hb⟩ => ?_
  subst he
  exact ⟨_, rfl, law_post hW' rfl rfl laid (by kernel_rfl) rfl Tryz.underlying4 hb⟩

theorem over : Rows.dnsTellsRow.holds Tryz.pinned (OpenSpec.ofChange Rows.dnsTellsSpec) :=
  OpenClaim.holds_of_wide 3 Tryz.f3 rfl rfl rfl rfl rfl rfl rfl ⟨rfl, rfl, rfl, rfl, rfl⟩ rfl rfl rfl rfl rfl (by kernel_rfl) Tryz.func3 (by kernel_rfl)
    (of_decide_eq_true (by kernel_rfl)) (by unfold Func.isWrapper; first | (rw [if_pos (by decide +kernel)]; kernel_rfl) | (rw [if_neg (by decide +kernel)]; exact ⟨rfl, rfl⟩))
    (fun os started H enc _ => lifted os started H enc)

theorem proved : Rows.DnsTellsCardSaid :=
  Claim7.holds_tied_plain_at .later [] Rows.dnsTellsCard.laidKinds true Rows.dnsTellsCard.stood.harness Rows.dnsTellsCard.stood.looks
    over (fun _ h => by cases h) (by kernel_rfl) (fun _ h => by cases h) dnsTells_row_tie rfl ⟨rfl, rfl⟩ (by kernel_rfl) rfl
    (fun f fn hf hfn => by
      obtain rfl : f = 3 := Option.some.inj ((show Tryz.prog.funcNamed "drawbridge/drawbridgelaw21.DnsTells" = some 3 by kernel_rfl).symm.trans hf) |>.symm
      obtain rfl : fn = Tryz.f3 := (Option.some.inj (Tryz.func3.symm.trans hfn)).symm
      exact ⟨by kernel_rfl, fun j t ht => by
        have hall : (Tryz.f3.params.toList.all fun u => !Tryz.prog.wantsStandIn u) = true := by kernel_rfl
        have hm : t ∈ Tryz.f3.params.toList := by simpa using Array.mem_of_getElem? ht
        exact (show Tryz.prog.wantsStandIn t = false by simpa using List.all_eq_true.1 hall t hm)⟩)
    (by kernel_rfl)
#print axioms proved
end Go.Proofs.YtnafdgpkofffaaaGreatDoor.dnsTells
