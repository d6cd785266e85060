/-
  The statement DnsBack: that a name that is asked for is read, in small letters, whatever stands behind: for every numbers, text and bytes. Conditions: none but those of the statement's row (the package variables as the text lays them).
-/
import Derived.Test.YtnafdgpkofffaaaDoorDnH
import Derived.Test.YtnafdgpkofffaaaDoorDnW
import Derived.Test.YtnafdgpkofffaaaDoorDnS
import Derived.Test.YtnafdgpkofffaaaDoorLaw
import Derived.Test.YtnafdgpkofffaaaDoorDnL
import Derived.Test.YtnafdgpkofffaaaDoorCards
import Derived.Test.YtnafdgpkofffaaaDoorTie
import Derived.SevenTiedAt
set_option maxRecDepth 4000
set_option linter.unusedVariables false
set_option linter.unusedSimpArgs false
namespace Go.Proofs.YtnafdgpkofffaaaDoor.dnsBack
open Go.ChangeShapes Go.WideShapes Go.ChangeAt Go.RowKit

theorem walk_f0 (hD : HeadC) (a : Option Addr) (n c : Nat) (s : ByteArray) (id kind : Int) (h1 : (2000 : Int) < (s.size : Int)) {W : World} (sn : SenW W) :
    Calls Tryd.prog 3 #[.int .i64 id, .string s, .int .i64 kind, .slice a n c] W fun e w' => e = .returned (.bool true) ∧ Below W.heap.size W w' := by
  have HG := Lib.hid (Grew.refl W)
  go_enter Tryd.func3, Tryd.ntmps3
  go_wp2_with fail
  refine (hD HG.out (sn.grew HG.out)).mono ?_
  rintro e wh ⟨rfl, gh⟩
  go_wp2_with fail
  go_ret
  exact ⟨rfl, gh⟩
theorem walk_f1 (hD : HeadC) (a : Option Addr) (n c : Nat) (s : ByteArray) (id kind : Int) (h1 : ¬ (2000 : Int) < (s.size : Int)) (h2 : (1000 : Int) < (n : Int)) {W : World} (sn : SenW W) :
    Calls Tryd.prog 3 #[.int .i64 id, .string s, .int .i64 kind, .slice a n c] W fun e w' => e = .returned (.bool true) ∧ Below W.heap.size W w' := by
  have HG := Lib.hid (Grew.refl W)
  go_enter Tryd.func3, Tryd.ntmps3
  go_wp2_with fail
  refine (hD HG.out (sn.grew HG.out)).mono ?_
  rintro e wh ⟨rfl, gh⟩
  go_wp2_with fail
  go_ret
  exact ⟨rfl, gh⟩
set_option maxHeartbeats 2000000 in
theorem walk_no (hA : AskC) (hD : HeadC) {v : Value} {xs ys : List Int} (id kind : Int) (hid : intI id) (hkind : intI kind) (h1 : ys.length ≤ 2000) (h2 : xs.length ≤ 1000) (hyo : AreBytes ys) (hok : askOk id ys kind = false) {W : World} (sn : SenW W) (hb : Buf W v xs) :
    Calls Tryd.prog 3 #[.int .i64 id, .string (strOfNums ys), .int .i64 kind, v] W fun e w' => e = .returned (.bool true) ∧ Below W.heap.size W w' := by
  obtain ⟨a, c, rfl, _, _⟩ := hb.shape
  have hsz : (strOfNums ys).size = ys.length := strOf_size ys
  have HM := Lib.hid hb
  have HG := Lib.hid (Grew.refl W)
  have HYL : ¬ (2000 : Int) < ((ys.length : Nat) : Int) := by omega
  have HXL : ¬ (1000 : Int) < ((xs.length : Nat) : Int) := by omega
  have a1 := Lib.hid (fun (w : World) (g : Grew W w) => hA (w := w) (xs := ys) id kind hid hkind hyo (by omega) (sn.grew (g)))
  rw [show askE id ys kind = 2 by unfold askE; rw [hok]; rfl, show askV id ys kind = [] by unfold askV; rw [hok]; rfl] at a1
  clear hA hb hyo hok
  generalize strOfNums ys = st at *
  generalize xs.length = n at *
  generalize ys.length = m at *
  go_enter Tryd.func3, Tryd.ntmps3
  go_wp2_with fail
  refine (a1.out _ HG.out).mono ?_
  rintro e w3 ⟨u, rfl, h3, g9⟩
  replace HG := Lib.hid (HG.out.trans g9)
  clear g9
  obtain ⟨p3, c3, rfl, z3, _⟩ := h3.shape
  clear z3 h3
  rw [List.length_nil]
  go_wp2_with fail
  refine (hD HG.out (sn.grew HG.out)).mono ?_
  rintro e wh ⟨rfl, gh⟩
  go_wp2_with fail
  go_ret
  exact ⟨rfl, gh⟩
set_option maxHeartbeats 4000000 in
theorem walk_yes (hQ : QuestionC) (hA : AskC) (hI : IdC) (hY : QueryC) (hD : HeadC) {v : Value} {xs ys : List Int} (id kind : Int) (hid : intI id) (hkind : intI kind) (h1 : ys.length ≤ 2000) (h2 : xs.length ≤ 1000) (hyo : AreBytes ys) (hok : askOk id ys kind = true) {W : World} (sn : SenW W) (hb : Buf W v xs) :
    Calls Tryd.prog 3 #[.int .i64 id, .string (strOfNums ys), .int .i64 kind, v] W fun e w' => e = .returned (.bool true) ∧ Below W.heap.size W w' := by
  obtain ⟨a, c, rfl, _, _⟩ := hb.shape
  have hsz : (strOfNums ys).size = ys.length := strOf_size ys
  have HM := Lib.hid hb
  have HG := Lib.hid (Grew.refl W)
  have HYL : ¬ (2000 : Int) < ((ys.length : Nat) : Int) := by omega
  have HXL : ¬ (1000 : Int) < ((xs.length : Nat) : Int) := by omega
  obtain ⟨q1, q2, q3⟩ := qs_ask hok xs
  obtain ⟨i1, y1, l1⟩ := id_ask hok
  have hw := Lib.hid (show (askW id ys kind).length ≤ 300 by
    unfold askW
    have := lblV_len (askOk_spec hok).1
    simp [putB_len]
    omega)
  have a1 := Lib.hid (fun (w : World) (g : Grew W w) => hA (w := w) (xs := ys) id kind hid hkind hyo (by omega) (sn.grew (g)))
  rw [show askE id ys kind = 0 by unfold askE; rw [hok]; rfl, show askV id ys kind = askW id ys kind by unfold askV; rw [hok]; rfl] at a1
  have Q := Lib.hid (fun (w : World) (g : Grew W w) (v : Value) (h : Buf w v (askW id ys kind ++ xs)) => hQ (w := w) (by have := hw.out; rw [List.length_append]; omega) (sn.grew (g)) h)
  rw [q1, q2, q3] at Q
  have I := Lib.hid (fun (w : World) (v : Value) (h : Buf w v (askW id ys kind)) => hI (w := w) (by have := hw.out; omega) h)
  rw [i1] at I
  have Y := Lib.hid (fun (w : World) (v : Value) (h : Buf w v (askW id ys kind)) => hY (w := w) (by have := hw.out; omega) h)
  rw [y1] at Y
  have SM := Lib.hid (fun (w : World) => small_c hyo (by omega) w)
  clear hA hQ hI hY hb hyo hok q1 q2 q3 i1 y1 l1
  generalize strOfNums (lowL (trimV ys)) = st2 at *
  generalize askW id ys kind = av at *
  generalize strOfNums ys = st at *
  generalize hxn : xs.length = n at *
  have HXN := Lib.hid hxn
  clear hxn
  generalize ys.length = m at *
  go_enter Tryd.func3, Tryd.ntmps3
  go_wp2_with fail
  refine (a1.out _ HG.out).mono ?_
  rintro e w3 ⟨u, rfl, h3, g9⟩
  replace HM := Lib.hid (HM.out.grew g9)
  replace HG := Lib.hid (HG.out.trans g9)
  clear g9
  have HAV := Lib.hid h3
  obtain ⟨p3, c3, rfl, z3, _⟩ := h3.shape
  clear z3 h3
  have HA1 := Lib.hid (show ([] : List Int).length + av.length ≤ 140737488355328 by have := hw.out; simp; omega)
  have HA2 := Lib.hid (show ([] ++ av).length + xs.length ≤ 140737488355328 by have := hw.out; have := HXN.out; simp; omega)
  go_wp2_with (first
    | (refine wpList_append_b (W := w3) rfl (.tmp 41) (.tmp 42) rfl ((Grew.refl w3).alloc _) (Row.lit w3 w3.heap.size (Nat.le_refl _) #[] [] rfl (by unfold maxLen; simp) w3.heap.size rfl 0 rfl) (HAV.out.grew ((Grew.refl w3).alloc _)) (by rfl) (by rfl) HA1.out ?_; intro v4 w4 R4 g4 y4; clear y4)
    | (refine wpList_append_b (W := w3) rfl (.tmp 43) (.tmp 44) rfl g4 R4.out (HM.out.grew g4) (by rfl) (by rfl) HA2.out ?_; intro v5 w5 R5 g5 y5; clear y5))
  have hb5 := R5.out.buf ((AreBytes.app (fun z hz => by simp at hz) HAV.out.ok).app HM.out.ok)
  rw [List.nil_append] at hb5
  replace HG := Lib.hid (HG.out.trans g5)
  replace HAV := Lib.hid (HAV.out.grew g5)
  have HB5 := Lib.hid hb5
  clear hb5 R4 R5 g4 g5
  refine (Q.out _ HG.out _ HB5.out).mono ?_
  rintro e w6 ⟨rfl, g9⟩
  replace HAV := Lib.hid (HAV.out.grew g9)
  replace HG := Lib.hid (HG.out.trans g9)
  clear g9
  go_wp2_with fail
  refine (I.out _ _ HAV.out).mono ?_
  rintro e w7 ⟨rfl, g9⟩
  replace HAV := Lib.hid (HAV.out.grew g9)
  replace HG := Lib.hid (HG.out.trans g9)
  clear g9
  go_wp2_with fail
  refine (SM.out _).mono ?_
  rintro e w8 ⟨rfl, g9⟩
  replace HAV := Lib.hid (HAV.out.grew g9)
  replace HG := Lib.hid (HG.out.trans g9)
  clear g9
  go_wp2_with fail
  refine (Y.out _ _ HAV.out).mono ?_
  rintro e w9 ⟨rfl, g9⟩
  replace HG := Lib.hid (HG.out.trans g9)
  clear g9
  go_wp2_with fail
  refine (hD HG.out (sn.grew HG.out)).mono ?_
  rintro e wh ⟨rfl, gh⟩
  go_wp2_with fail
  go_ret
  exact ⟨rfl, gh⟩
theorem walk0 (hQ : QuestionC) (hA : AskC) (hI : IdC) (hWi : WithC) (hY : QueryC) (hF : FailC) (hD : HeadC) {v : Value} {xs ys : List Int} (id kind : Int) (hid : intI id) (hkind : intI kind) (hyo : AreBytes ys) {W : World} (sn : SenW W) (hb : Buf W v xs) :
    Calls Tryd.prog 3 #[.int .i64 id, .string (strOfNums ys), .int .i64 kind, v] W fun e w' => e = .returned (.bool true) ∧ Below W.heap.size W w' := by
  have hsz : (strOfNums ys).size = ys.length := strOf_size ys
  by_cases h1 : ys.length ≤ 2000
  · by_cases h2 : xs.length ≤ 1000
    · cases hok : askOk id ys kind
      · exact walk_no hA hD id kind hid hkind h1 h2 hyo hok sn hb
      · exact walk_yes hQ hA hI hY hD id kind hid hkind h1 h2 hyo hok sn hb
    · obtain ⟨a, c, rfl, _, _⟩ := hb.shape
      exact walk_f1 hD a _ c _ id kind (by omega) (by omega) sn
  · obtain ⟨a, c, rfl, _, _⟩ := hb.shape
    exact walk_f0 hD a _ c _ id kind (by omega) sn
theorem walk (id : Int) (hid : intI id) (ys : List Int) (kind : Int) (hkind : intI kind) (v : Value) (xs : List Int) {W : World} (sn : SenW W) (hy : AreBytes ys ∧ ys.length ≤ maxLen) (hb : Buf W v xs) :
    Calls Tryd.prog 3 #[.int .i64 id, .string (strOfNums ys), .int .i64 kind, v] W fun e w' => e = .returned (.bool true) ∧ Below W.heap.size W w' :=
  walk0 question21_c ask21_c id21_c with21_c query21_c fail21_c heads_c id kind hid hkind hy.1 sn hb
set_option maxRecDepth 100000 in
theorem lifted (os : Os) (started : os.Started) (H : Type) (enc : TypeId × Value → H) :
    ReturnsInHanded {} Tryd.checked os 3 .any (fun w args => (Rows.dnsBackSpec.pre enc Tryd.prog Tryd.f3 [] false w args ∧ laidMetH Tryd.prog laid4 w) ∧ sizedMet enc Tryd.prog Tryd.f3 (OpenSpec.ofChange Rows.dnsBackSpec) false w args) (Rows.dnsBackSpec.post enc Tryd.prog Tryd.f3 false true false false) := by
  refine returnsInHanded_of_change_and (C := Tryd.checked) (X := fun w _ => laidMetH Tryd.prog laid4 w) (fun _ _ _ hh h => h.of_heap hh) own started (by kernel_rfl) Tryd.func3
    (ChangeSpec.witness_shaped (enc := enc) (C := Tryd.checked) (os := os) (X := fun w _ => laidMetH Tryd.prog laid4 w) false (world4 os) #[.int .i64 0, .string ⟨#[]⟩, .int .i64 0, .slice none 0 0] 8 rfl (World.shaped_of_RefB (by kernel_rfl) (by kernel_rfl)) (by kernel_rfl) (by kernel_rfl) (by kernel_rfl) (met4 os _)) ?_
  intro W base args ds gs before hval0 hW _ hz0 hL _
  obtain ⟨a0, a1, sn⟩ := sen4_of_laid hL
  have hval : ∀ (j : Nat) t v, Tryd.f3.params[j]? = some t → args[j]? = some v → Value.okWide Tryd.prog W .any base t v := hval0
  have hW' := hW
  obtain ⟨p, q, hA0, hV, rfl, hfz, hnd⟩ := hW
  have hA : DataW.TrodAll enc Tryd.prog W 0 (fun _ => true) true Tryd.f3.params.toList args.toList ds p := hA0
  rw [Tryd.params3] at hA hval
  obtain ⟨v0, vs0, d0, ds0, p0, q0, hargs, rfl, rfl, h0, r'0⟩ := trodAll_cons hA
  obtain ⟨v1, vs1, d1, ds1, p1, q1, rfl, rfl, rfl, h1, r'1⟩ := trodAll_cons r'0
  obtain ⟨v2, vs2, d2, ds2, p2, q2, rfl, rfl, rfl, h2, r'2⟩ := trodAll_cons r'1
  obtain ⟨v3, vs3, d3, ds3, p3, q3, rfl, rfl, rfl, h3, r'3⟩ := trodAll_cons r'2
  obtain ⟨rfl, rfl, rfl⟩ := trodAll_nil r'3
  obtain rfl : args = #[v0, v1, v2, v3] := by cases args; simp_all
  obtain ⟨a0, rfl, rfl, rfl, w0⟩ := open_int Tryd.underlying3 (hval 0 3 v0 rfl rfl) h0
  obtain ⟨x1, rfl, y1⟩ := open_str (hval 1 9 v1 rfl rfl) h1
  obtain ⟨a2, rfl, rfl, rfl, w2⟩ := open_int Tryd.underlying3 (hval 2 3 v2 rfl rfl) h2
  obtain ⟨x3, k3⟩ := open_buf Tryd.underlying22 Tryd.underlying5 (by kernel_rfl) (hval 3 22 v3 rfl rfl) h3
  refine (walk a0 (wf_i64 w0) x1 a2 (wf_i64 w2) v3 x3 sn y1 k3).mono fun e W' ⟨he, hb⟩ => ?_
  subst he
  exact ⟨_, rfl, law_post hW' rfl rfl laid (by kernel_rfl) rfl Tryd.underlying4 hb⟩

theorem over : Rows.dnsBackRow.holds Tryd.pinned (OpenSpec.ofChange Rows.dnsBackSpec) :=
  OpenClaim.holds_of_wide 3 Tryd.f3 rfl rfl rfl rfl rfl rfl rfl ⟨rfl, rfl, rfl, rfl, rfl⟩ rfl rfl rfl rfl rfl (by kernel_rfl) Tryd.func3 (by kernel_rfl)
    (of_decide_eq_true (by kernel_rfl)) (by unfold Func.isWrapper; first | (rw [if_pos (by decide +kernel)]; kernel_rfl) | (rw [if_neg (by decide +kernel)]; exact ⟨rfl, rfl⟩))
    (fun os started H enc _ => lifted os started H enc)

theorem proved : Rows.DnsBackCardSaid :=
  Claim7.holds_tied_plain_at .later [] Rows.dnsBackCard.laidKinds true Rows.dnsBackCard.stood.harness Rows.dnsBackCard.stood.looks
    over (fun _ h => by cases h) (by kernel_rfl) (fun _ h => by cases h) dnsBack_row_tie rfl ⟨rfl, rfl⟩ (by kernel_rfl) rfl
    (fun f fn hf hfn => by
      obtain rfl : f = 3 := Option.some.inj ((show Tryd.prog.funcNamed "drawbridge/drawbridgelaw21.DnsBack" = some 3 by kernel_rfl).symm.trans hf) |>.symm
      obtain rfl : fn = Tryd.f3 := (Option.some.inj (Tryd.func3.symm.trans hfn)).symm
      exact ⟨by kernel_rfl, fun j t ht => by
        have hall : (Tryd.f3.params.toList.all fun u => !Tryd.prog.wantsStandIn u) = true := by kernel_rfl
        have hm : t ∈ Tryd.f3.params.toList := by simpa using Array.mem_of_getElem? ht
        exact (show Tryd.prog.wantsStandIn t = false by simpa using List.all_eq_true.1 hall t hm)⟩)
    (by kernel_rfl)
#print axioms proved
end Go.Proofs.YtnafdgpkofffaaaDoor.dnsBack
