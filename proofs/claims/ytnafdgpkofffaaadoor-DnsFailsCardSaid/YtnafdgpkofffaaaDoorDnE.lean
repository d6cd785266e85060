/-
  Package dns: the labels of a message.
-/
import Derived.Test.YtnafdgpkofffaaaDoorDnD
import Derived.Test.YtnafdgpkofffaaaDoorDnY
import Derived.Test.YtnafdgpkofffaaaDoorRdS
set_option maxRecDepth 4000
set_option linter.unusedVariables false
set_option linter.unusedSimpArgs false
namespace Go.Proofs.YtnafdgpkofffaaaDoor
open Go.RowKit

/-- Texts as a row's data. -/
def datS (L : List (List Int)) : List (List Dc) := L.map fun l => [.str (strOfNums l)]
theorem datS_len (L : List (List Int)) : (datS L).length = L.length := by simp [datS]
theorem datS_snoc (L : List (List Int)) (l : List Int) : datS L ++ [[.str (strOfNums l)]] = datS (L ++ [l]) := by simp [datS]
theorem rowS : RowT Tryd.prog 45 9 1 16 := RowT.mk' (z := .string ByteArray.empty) Tryd.underlying45 (by kernel_rfl) rfl (by decide)
def asciiL (xs : List Int) : Prop := ∀ c ∈ xs, 0 ≤ c ∧ c < 128
theorem letV_ascii {c : Int} (h : 0 ≤ c) (hl : (letV c).2 = true) : 0 ≤ c ∧ c < 128 := by
  unfold letV at hl
  split at hl
  · omega
  · have := of_decide_eq_true hl
    omega
theorem asciiL_app {xs ys : List Int} (h : asciiL xs) (h2 : asciiL ys) : asciiL (xs ++ ys) := fun c hc => by
  rcases List.mem_append.1 hc with hc | hc
  · exact h c hc
  · exact h2 c hc
/-- What the row of labels is, of what has been read so far. -/
structure LabsOk (L : List (List Int)) (k : Nat) : Prop where
  ne : L ≠ [] → joinV L ≠ []
  asc : asciiL (joinV L)
  len : (joinV L).length + 12 ≤ k
  many : L.length + 12 ≤ k
theorem LabsOk.nil : LabsOk [] 12 := ⟨fun h => absurd rfl h, fun c hc => by simp [joinV] at hc, by simp [joinV], by simp⟩
theorem LabsOk.snoc {L : List (List Int)} {k : Nat} (h : LabsOk L k) {l : List Int} (h0 : l ≠ []) (ha : asciiL l) : LabsOk (L ++ [l]) (k + 1 + l.length) := by
  have hp : 0 < l.length := List.length_pos_iff.2 h0
  refine ⟨fun _ => by rw [joinV_snoc]; simp [h0], ?_, ?_, ?_⟩
  · rw [joinV_snoc]
    refine asciiL_app ?_ ha
    split
    · exact fun c hc => by simp at hc
    · exact asciiL_app h.asc fun c hc => by obtain rfl := List.mem_singleton.1 hc; omega
  · rw [joinV_snoc]
    have := h.len
    split <;> simp <;> omega
  · have := h.many
    simp only [List.length_append, List.length_singleton]
    omega
theorem low_snoc {L : List (List Int)} {k : Nat} (h : LabsOk L k) (l : List Int) : dotV (lowL (joinV L)) ++ lowL l = lowL (joinV (L ++ [l])) := by
  rw [joinV_snoc, lowL_app]
  congr 1
  by_cases h0 : L = []
  · subst h0; rfl
  · rw [if_neg h0, lowL_app]
    unfold dotV
    rw [if_neg (by intro e; have := congrArg List.length e; rw [lowL_len] at this; exact h.ne h0 (List.eq_nil_of_length_eq_zero (by simpa using this)))]
    rfl
set_option maxHeartbeats 8000000 in
theorem labelsIn_c {v : Value} {xs : List Int} (h12 : 12 ≤ xs.length) (hl : xs.length ≤ 140737488355328) {w : World} (hb : Buf w v xs) (R : List Int × Int × Int) (hR : R = namV xs 12) :
    Calls Tryd.prog 33 #[v] w (fun e w' => (R.2.2 = 0 ∧ ∃ u L, e = .returned (.tuple #[u, .int .i64 R.2.1, .nilIface]) ∧ RdC w' noAv (.row 1 (datS L)) u ∧ lowL (joinV L) = R.1 ∧ asciiL (joinV L) ∧ L.length ≤ 255 ∧ (joinV L).length ≤ 255 ∧ Grew w w') ∨ (R.2.2 ≠ 0 ∧ ∃ n s, e = .returned (.tuple #[.slice none 0 0, .int .i64 0, .iface 62 (.agg #[.int .i64 R.2.2, .int .i64 n, .string s])]) ∧ Grew w w')) := by
  have HV : Hid (namAt xs 12 12 (lowL (joinV [])) = R) := Lib.hid hR.symm
  have HOK := Lib.hid hb.ok
  have HB0 := Lib.hid hb
  have HLX := Lib.hid hl
  obtain ⟨n, hn⟩ : ∃ n, n = xs.length := ⟨_, rfl⟩
  have HN := Lib.hid hn
  rw [← hn] at h12 hl
  obtain ⟨a, c, rfl, _, _⟩ := hb.shape
  obtain ⟨v, hv⟩ : ∃ v, v = Value.slice a xs.length c := ⟨_, rfl⟩
  rw [← hv] at HB0 ⊢
  have hbv : ∃ a c, v = .slice a n c := ⟨a, c, by rw [hv, hn]⟩
  clear hv hb hR hn
  obtain ⟨a, c, rfl⟩ := hbv
  go_enter Tryd.func33, Tryd.ntmps33
  go_upto_region 2 with fail
  go_step3
  go_wp2_with fail
  go_step3
  go_wp2_with fail
  go_loopw [5, 6] (fun s i wr => ∃ (L : List (List Int)) (k : Nat), i = .int .i64 k ∧ 12 ≤ k ∧ k ≤ n ∧ k ≤ 266 ∧ Hid (namAt xs 12 k (lowL (joinV L)) = R) ∧ Hid (OwnD 9 wr noAv w.heap.size s 1 (datS L)) ∧ Hid (LabsOk L k) ∧ Grew w wr) (fun _ i _ => n - (intOf i).toNat)
  case atStart => exact ⟨[], 12, rfl, Nat.le_refl _, h12, by omega, HV, Lib.hid (OwnD.nil _ _ _ _ _), Lib.hid LabsOk.nil, Grew.refl _⟩
  case round =>
    obtain ⟨L, k, rfl, hk12, hkn, hk6, HR, HO, HL, gr⟩ := hrel
    have HB := Lib.hid (HB0.out.grew gr)
    have hkl : k ≤ xs.length := by rw [← HN.out]; exact hkn
    have hcall := labelAt_c k hkl HLX.out HB.out
    by_cases hE : labE xs k = 0
    · have hkn2 : k < n := by
        unfold labE at hE
        split at hE
        · simp at hE
        · rw [HN.out]; omega
      have hkx : k < xs.length := by rw [← HN.out]; exact hkn2
      have hlong : ¬ 63 < xs.getD k 0 := fun h => by unfold labE at hE; rw [if_neg (by omega), if_pos h] at hE; simp at hE
      have hlab : (labF (xs.getD k 0).toNat (xs.drop (k + 1))).2 = 0 := by unfold labE at hE; rwa [if_neg (by omega), if_neg hlong] at hE
      have hz0 := HOK.out.getD k
      have hc1 := hcall.mono (R' := fun e w' => e = .returned (.tuple #[.string (strOfNums (cutL xs (k + 1) (k + 1 + (xs.getD k 0).toNat))), .nilIface]) ∧ Grew wr w') (fun e w' h => by
        rcases h with ⟨_, h1, h2⟩ | ⟨h1, _⟩
        · exact ⟨h1, h2⟩
        · exact absurd hE h1)
      clear hcall
      by_cases hm0 : xs.getD k 0 = 0
      · have HRES : Hid (R = (lowL (joinV L), (k : Int) + 1, 0)) := Lib.hid (by rw [← HR.out, namAt_done hkx hm0])
        rw [hm0, show cutL xs (k + 1) (k + 1 + (0 : Int).toNat) = [] by simp [cutL]] at hc1
        have HC1 := Lib.hid (show Calls Tryd.prog 42 #[.slice a n c, .int .i64 (k : Int)] wr (fun e w' => e = .returned (.tuple #[.string ⟨#[]⟩, .nilIface]) ∧ Grew wr w') from hc1)
        have hw1 : wrap64 ((k : Int) + 1) = (k : Int) + 1 := IntWalk.wrap64_in _ (by omega)
        clear hc1 hlab hlong hm0 hE hkx hz0 hkl
        go_wp2_with fail
        refine HC1.out.mono ?_
        rintro e w1 ⟨rfl, g1⟩
        go_wp2_with fail
        try dsimp only [Exit.noGoto]
        go_ret3
        rw [HRES.out]
        refine .inl ⟨rfl, _, L, rfl, ((HO.out.grew g1).read (fun g hg => by simp [noAv])), rfl, HL.out.asc, by have := HL.out.many; omega, by have := HL.out.len; omega, gr.trans g1⟩
      · obtain ⟨m, hm⟩ : ∃ m : Nat, xs.getD k 0 = (m : Int) := ⟨(xs.getD k 0).toNat, by omega⟩
        have hAmany := namAt_many (p := 12) (T := lowL (joinV L)) hkx hm0 hlong hlab
        have hAnext := namAt_next (p := 12) (T := lowL (joinV L)) hkx hm0 hlong hlab
        have hcut := labF_cut _ _ hlab
        have hlen := labF_len _ _ hlab
        rw [hm, Int.toNat_natCast] at hcut hlen hc1
        rw [hm] at hAmany hAnext hm0
        rw [Int.toNat_natCast] at hAnext
        rw [List.length_drop, ← HN.out] at hlen
        have hm1 : 0 < m := by omega
        have hm63 : m ≤ 63 := by omega
        have hct : (xs.drop (k + 1)).take m = cutL xs (k + 1) (k + 1 + m) := by unfold cutL; congr 1; omega
        rw [hct] at hcut
        have hll : (cutL xs (k + 1) (k + 1 + m)).length = m := by rw [cutL_length (by omega) (by rw [← HN.out]; omega)]; omega
        have hlo := HOK.out.cut (k + 1) (k + 1 + m)
        generalize cutL xs (k + 1) (k + 1 + m) = lab at *
        obtain ⟨S, hS⟩ : ∃ S, S = strOfNums lab := ⟨_, rfl⟩
        have hsz : S.size = m := by rw [hS, strOf_size, hll]
        have hemp : S.toList.isEmpty = false := by
          rw [Lib.toList_data]
          cases h : S.data.toList with
          | nil => have := Lib.size_eq S; rw [h, List.length_nil] at this; omega
          | cons _ _ => rfl
        have hlne : lab ≠ [] := fun e => by rw [e] at hll; simp at hll; omega
        have hasc : asciiL lab := fun c hc => letV_ascii (hlo c hc).1 (hcut.2 c hc)
        rw [hcut.1] at hAnext
        rw [← hS] at hc1
        have HC1 := Lib.hid hc1
        have HS := Lib.hid hS
        have HSN0 := Lib.hid (show LabsOk (L ++ [lab]) (k + 1 + m) by have := HL.out.snoc hlne hasc; rwa [hll] at this)
        have HLW := Lib.hid (low_snoc HL.out lab)
        have HAM := Lib.hid hAmany
        have HAN := Lib.hid hAnext
        clear hc1 hlab hlong hm0 hE hkx hz0 hkl hAmany hAnext hcut hct hll hlo hlne hasc hm hS
        obtain ⟨k2, hk2⟩ : ∃ k2 : Nat, k2 = k + 1 + m := ⟨_, rfl⟩
        have HSN := Lib.hid (show LabsOk (L ++ [lab]) k2 by rw [hk2]; exact HSN0.out)
        by_cases hmany : (255 : Int) < (k : Int) + 1 + (m : Int) - (12 : Nat) + 1
        · have HRES : Hid (R = ([], 0, 161)) := Lib.hid (by rw [← HR.out, HAM.out hmany])
          have hT : (267 : Int) < (k : Int) + (1 + (m : Int)) + 1 := by omega
          clear hlen hmany HAM HAN HSN0
          go_wp2_with fail
          refine HC1.out.mono ?_
          rintro e w1 ⟨rfl, g1⟩
          go_wp2_with fail
          try dsimp only [Exit.noGoto]
          go_ret3
          rw [HRES.out]
          exact .inr ⟨by decide, _, _, rfl, gr.trans g1⟩
        · have HNX : Hid (namAt xs 12 k2 (lowL (joinV (L ++ [lab]))) = R) := Lib.hid (by rw [← HLW.out, ← HR.out, HAN.out hmany, hk2])
          have hT : ¬ (267 : Int) < (k : Int) + (1 + (m : Int)) + 1 := by omega
          have hk2n : k2 ≤ n := by omega
          have hk26 : k2 ≤ 266 := by omega
          have hk212 : 12 ≤ k2 := by omega
          have hkk2 : k < k2 := by omega
          clear hlen hmany HAM HAN HSN0
          go_wp2_with fail
          refine HC1.out.mono ?_
          rintro e wA ⟨rfl, g1⟩
          go_upto_region 10 with fail
          have HO1 := Lib.hid (HO.out.grew (g1.trans ((Grew.refl wA).alloc (.cells #[.string S] 9))))
          have HSRC := Lib.hid (SrcD.lit (sz := 1) (av := fun _ => True) (ys := [[.str S]]) (Blk.new wA #[.string S] 9 _ rfl) (fun e he => by obtain rfl := List.mem_singleton.1 he; rfl) (RdL.cons (.str S) (RdL.nil _ _)))
          have HGA := Lib.hid ((gr.trans g1).alloc (.cells #[.string S] 9))
          have HX1 := Lib.hid (show ((datS L).length + [[Dc.str S]].length) * 16 ≤ 140737488355328 by rw [datS_len]; have := HL.out.many; simp only [List.length_singleton]; omega)
          have HX2 := Lib.hid (show (datS L).length + [[Dc.str S]].length ≤ maxLen by rw [datS_len]; have := HL.out.many; simp only [List.length_singleton]; unfold maxLen; omega)
          go_upto_region 11 with (refine list_append_D (W := w) (n := 1) rowS rfl (.tmp 34) (.tmp 36) rfl HGA.out HO1.out HSRC.out rfl HX1.out HX2.out (by rfl) (by rfl) ?_; intro v9 w9 R9 g9 gb; clear gb)
          have HO9 := Lib.hid (show OwnD 9 w9 noAv w.heap.size v9 1 (datS (L ++ [lab])) by have := R9.out; rwa [HS.out, datS_snoc] at this)
          go_round
          case rel => exact ⟨L ++ [lab], k2, by rw [hk2]; go_num, hk212, hk2n, hk26, HNX, HO9, HSN, g9⟩
          case measure => simp [intOf]; omega
    · have hRE : R = ([], 0, labE xs k) := by
        rw [← HR.out]
        unfold labE at hE ⊢
        by_cases h0 : k < xs.length
        · rw [if_neg (by omega)] at hE ⊢
          by_cases h1 : 63 < xs.getD k 0
          · rw [if_pos h1, namAt_long h0 (by omega) h1]
          · rw [if_neg h1] at hE ⊢
            rw [namAt_bad h0 (fun e => by rw [e] at hE; exact hE (by simp [labF])) h1 hE]
        · rw [if_pos h0, namAt_end h0]
      have HRES := Lib.hid hRE
      have HEN := Lib.hid hE
      have HC1 := Lib.hid (hcall.mono (R' := fun e w' => ∃ n s, e = .returned (.tuple #[.string ⟨#[]⟩, .iface 62 (.agg #[.int .i64 (labE xs k), .int .i64 n, .string s])]) ∧ Grew wr w') (fun e w' h => by
        rcases h with ⟨h1, _⟩ | ⟨_, h2⟩
        · exact absurd h1 hE
        · exact h2))
      have hw1 : wrap64 ((k : Int) + 1) = (k : Int) + 1 := IntWalk.wrap64_in _ (by omega)
      clear hcall hRE hE hkl
      generalize labE xs k = EE at *
      go_wp2_with fail
      refine HC1.out.mono ?_
      rintro e w1 ⟨n1, s1, rfl, g1⟩
      go_wp2_with fail
      try dsimp only [Exit.noGoto]
      go_ret3
      rw [HRES.out]
      exact .inr ⟨HEN.out, _, _, rfl, gr.trans g1⟩
end Go.Proofs.YtnafdgpkofffaaaDoor
