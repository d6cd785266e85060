/-
  The document's own questions for names: labels gone through.
-/
import Derived.Test.YtnafdgpkofffaaaGreatDoorDnR
set_option maxRecDepth 4000
set_option linter.unusedVariables false
set_option linter.unusedSimpArgs false
namespace Go.Proofs.YtnafdgpkofffaaaGreatDoor
open Go.RowKit

/-- What a label's rest makes of what has been read of it. -/
def labC (m : Nat) (b : List Int) (pre : List Int) : List Int × Int := (pre ++ (labF (m - pre.length) (b.drop pre.length)).1, (labF (m - pre.length) (b.drop pre.length)).2)
theorem labC_start (m : Nat) (b : List Int) : labC m b [] = labF m b := by simp [labC]
theorem labC_done {m : Nat} {b pre : List Int} (h : pre.length = m) : labC m b pre = (pre, 0) := by
  unfold labC
  rw [h, Nat.sub_self]
  simp [labF]
theorem labC_short {m : Nat} {b pre : List Int} (h : pre.length < m) (h2 : b.length ≤ pre.length) : (labC m b pre).2 = 160 := by
  unfold labC
  rw [show m - pre.length = (m - pre.length - 1) + 1 by omega, List.drop_eq_nil_of_le h2]
  rfl
theorem drop_cons {b : List Int} {k : Nat} (h : k < b.length) : b.drop k = b.getD k 0 :: b.drop (k + 1) := by
  rw [List.drop_eq_getElem_cons h, List.getD_eq_getElem?_getD, List.getElem?_eq_getElem h]
  rfl
theorem labF_bad1 {c : Int} (h : (letV c).2 = false) (k : Nat) (r : List Int) : labF (k + 1) (c :: r) = ([], 161) := by
  unfold labF
  rw [if_pos h]
theorem labF_ok1 {c : Int} (h : (letV c).2 = true) (k : Nat) (r : List Int) : labF (k + 1) (c :: r) = ((letV c).1 :: (labF k r).1, (labF k r).2) := by
  conv => lhs; unfold labF
  rw [if_neg (by rw [h]; simp)]
theorem labC_bad {m : Nat} {b pre : List Int} (h : pre.length < m) (h2 : pre.length < b.length) (h3 : (letV (b.getD pre.length 0)).2 = false) : (labC m b pre).2 = 161 := by
  unfold labC
  rw [show m - pre.length = (m - pre.length - 1) + 1 by omega, drop_cons h2, labF_bad1 h3]
theorem labC_next {m : Nat} {b pre : List Int} (h : pre.length < m) (h2 : pre.length < b.length) (h3 : (letV (b.getD pre.length 0)).2 = true) : labC m b pre = labC m b (pre ++ [(letV (b.getD pre.length 0)).1]) := by
  unfold labC
  rw [show m - pre.length = (m - pre.length - 1) + 1 by omega, drop_cons h2, labF_ok1 h3, List.length_append, List.length_singleton, List.append_assoc, show m - (pre.length + 1) = m - pre.length - 1 by omega]
  rfl
theorem dotV_len (T : List Int) : (dotV T).length ≤ T.length + 1 := by
  unfold dotV
  split <;> simp
theorem dotV_ok {T : List Int} (h : AreBytes T) : AreBytes (dotV T) := by
  unfold dotV
  split
  · intro x hx; simp at hx
  · exact h.app (fun x hx => by simp only [List.mem_cons, List.not_mem_nil, or_false] at hx; omega)
set_option maxHeartbeats 8000000 in
theorem names_c {v : Value} {xs : List Int} (K : Int) (p : Nat) (hK : K = p) (hp : p ≤ xs.length) (hl : xs.length ≤ 140737488355328) {w : World} (hb : Buf w v xs) :
    Calls Tryz.prog 39 #[v, .int .i64 K] w fun e w' => e = .returned (.tuple #[.string (strOfNums (namV xs p).1), .int .i64 (namV xs p).2.1, .int .i64 (namV xs p).2.2]) ∧ Grew w w' := by
  subst hK
  obtain ⟨a, c, rfl, hc, ha⟩ := hb.shape
  have HOK := Lib.hid hb.ok
  have HA := Lib.hid ha
  obtain ⟨R, hR⟩ : ∃ R, R = namV xs p := ⟨_, rfl⟩
  rw [← hR]
  have HV : Hid (namAt xs p p [] = R) := Lib.hid hR.symm
  obtain ⟨n, hn⟩ : ∃ n, n = xs.length := ⟨_, rfl⟩
  rw [← hn] at hl hp ⊢
  have HN := Lib.hid hn
  clear hR hc ha hb hn
  go_enter Tryz.func39, Tryz.ntmps39
  go_upto_region 3 with fail
  go_loopw [7, 8] (fun s i wr => ∃ (T : List Int) (k : Nat), s = .string (strOfNums T) ∧ i = .int .i64 k ∧ k ≤ n ∧ T.length ≤ k ∧ AreBytes T ∧ Hid (namAt xs p k T = R) ∧ Grew w wr) (fun _ i _ => n - (intOf i).toNat)
  case atStart => exact ⟨[], p, rfl, rfl, hp, Nat.zero_le _, fun x hx => by simp at hx, HV, Grew.refl _⟩
  case round =>
    obtain ⟨T, k, rfl, rfl, hkn, hTk, hTo, HK, gr⟩ := hrel
    by_cases hlt : k < n
    · have hne : xs ≠ [] := by have := HN.out; rintro rfl; simp at this; omega
      obtain ⟨bk, off, rfl, hat⟩ := HA.out hne
      have hat2 : ∀ w', Grew w w' → ∀ j, j < n → w'.cell? ⟨bk, off + j, none⟩ = some (.int .u8 (xs.getD j 0)) := fun w' g j hj => (hat.grew g) j (by rw [← HN.out]; exact hj)
      have HAT2 := Lib.hid hat2
      have x0 : wr.cell? ⟨bk, off + k, none⟩ = some (.int .u8 (xs.getD k 0)) := hat2 wr gr k hlt
      clear hat hne hat2
      have hz0 := HOK.out.getD k
      have hlt' : (k : Int) < (n : Nat) := by omega
      have hlt'' : ¬ ((n : Int) ≤ (k : Int)) := by omega
      have hkl : k < xs.length := by rw [← HN.out]; exact hlt
      by_cases z0 : xs.getD k 0 = 0
      · have HRES : Hid (R = (T, (k : Int) + 1, 0)) := Lib.hid (by rw [← HK.out, namAt_done hkl z0])
        rw [z0] at x0
        have hw1 : wrap64 ((k : Int) + 1) = (k : Int) + 1 := IntWalk.wrap64_in _ (by omega)
        clear hz0 z0 hkl
        go_wp2_with fail
        go_ret3
        rw [HRES.out]
        exact ⟨rfl, gr⟩
      · by_cases z1 : 63 < xs.getD k 0
        · have HRES : Hid (R = ([], 0, 161)) := Lib.hid (by rw [← HK.out, namAt_long hkl z0 z1])
          have e0 : (xs.getD k 0 == 0) = false := by simpa using z0
          clear z0 hkl
          generalize xs.getD k 0 = y0 at *
          go_wp2_with fail
          go_ret3
          rw [HRES.out]
          exact ⟨rfl, gr⟩
        · have hAbad := namAt_bad (p := p) (T := T) hkl z0 z1
          have hAmany := namAt_many (p := p) (T := T) hkl z0 z1
          have hAnext := namAt_next (p := p) (T := T) hkl z0 z1
          have e0 : (xs.getD k 0 == 0) = false := by simpa using z0
          obtain ⟨m, hm⟩ : ∃ m : Nat, xs.getD k 0 = (m : Int) := ⟨(xs.getD k 0).toNat, by omega⟩
          rw [hm] at x0 e0 z0 z1 hAbad hAmany hAnext hz0
          rw [Int.toNat_natCast] at hAbad hAmany hAnext
          have hm0 : 0 < m := by omega
          have hm63 : m ≤ 63 := by omega
          have ewm : IntKind.i64.wrap (m : Int) = (m : Int) := IntWalk.i64_in _ (by omega)
          obtain ⟨S0, hS0⟩ : ∃ S0, S0 = dotV T := ⟨_, rfl⟩
          obtain ⟨LR, hLR⟩ : ∃ LR, LR = labF m (xs.drop (k + 1)) := ⟨_, rfl⟩
          have HLRD := Lib.hid hLR
          have HLR0 : Hid (labC m (xs.drop (k + 1)) [] = LR) := Lib.hid (by rw [labC_start, hLR])
          have HBAD : Hid (LR.2 ≠ 0 → R = ([], 0, LR.2)) := Lib.hid (fun h => by rw [← HK.out, hLR]; rw [hLR] at h; exact hAbad h)
          have HMANY : Hid (LR.2 = 0 → (255 : Int) < (k : Int) + 1 + (m : Int) - (p : Int) + 1 → R = ([], 0, 161)) := Lib.hid (fun h1 h2 => by rw [← HK.out]; rw [hLR] at h1; exact hAmany h1 h2)
          have HNEXT : Hid (LR.2 = 0 → ¬ (255 : Int) < (k : Int) + 1 + (m : Int) - (p : Int) + 1 → namAt xs p (k + 1 + m) (S0 ++ LR.1) = R) := Lib.hid (fun h1 h2 => by rw [← HK.out, hS0, hLR]; rw [hLR] at h1; exact (hAnext h1 h2).symm)
          have HSL := Lib.hid (show S0.length ≤ k + 1 by rw [hS0]; have := dotV_len T; omega)
          have HSB := Lib.hid (show S0.length + 64 ≤ 9223372036854775000 by rw [hS0]; have := dotV_len T; omega)
          have HSO := Lib.hid (show AreBytes S0 by rw [hS0]; exact dotV_ok hTo)
          clear hm hkl hz0 z0 hAbad hAmany hAnext hLR
          by_cases hT : T = []
          · subst hT
            have hS : S0 = [] := by rw [hS0]; rfl
            clear hS0
            have HS0 := Lib.hid hS
            clear hS
            have hsE : strOfNums [] = ⟨#[]⟩ := rfl
            rw [hsE]
            clear hsE
            go_upto_region 12 with fail
            go_loopw [7, 10] (fun s j wi => ∃ (pre : List Int), s = .string (strOfNums (S0 ++ pre)) ∧ j = .int .i64 ((pre.length : Int) + 1) ∧ pre.length ≤ m ∧ AreBytes pre ∧ Hid (labC m (xs.drop (k + 1)) pre = LR) ∧ Grew w wi) (fun _ j _ => (m + 1 - intOf j).toNat)
            case atStart => exact ⟨[], by first | (rw [List.append_nil]; done) | (rw [List.append_nil, HS0.out]; rfl), rfl, Nat.zero_le _, fun x hx => by simp at hx, HLR0, gr⟩
            case round =>
              obtain ⟨pre, rfl, rfl, hpm, hpo, HPR, gi⟩ := hrel
              clear gr
              by_cases hin : pre.length < m
              · have hin' : (pre.length : Int) + 1 ≤ m := by omega
                by_cases hsh : k + 1 + pre.length < n
                · have hs1 : ¬ ((n : Int) ≤ (k : Int) + ((pre.length : Int) + 1)) := by omega
                  have hs2 : (k : Int) + ((pre.length : Int) + 1) < (n : Nat) := by omega
                  have hbl : pre.length < (xs.drop (k + 1)).length := by rw [List.length_drop, ← HN.out]; omega
                  have hgd : (xs.drop (k + 1)).getD pre.length 0 = xs.getD (k + 1 + pre.length) 0 := by simp only [List.getD_eq_getElem?_getD, List.getElem?_drop]
                  have HAT := Lib.hid (HAT2.out wr gi (k + 1 + pre.length) hsh)
                  have x1 : wr.cell? ⟨bk, off + (k + (pre.length + 1)), none⟩ = some (.int .u8 (xs.getD (k + 1 + pre.length) 0)) := by have := HAT.out; rwa [show off + (k + 1 + pre.length) = off + (k + (pre.length + 1)) by omega] at this
                  have hcz := HOK.out.getD (k + 1 + pre.length)
                  have HLT := Lib.hid (fun w' => letter_c (xs.getD (k + 1 + pre.length) 0) hcz w')
                  have hw1 : wrap64 ((k : Int) + ((pre.length : Int) + 1)) = (k : Int) + ((pre.length : Int) + 1) := IntWalk.wrap64_in _ (by omega)
                  cases hlt2 : (letV (xs.getD (k + 1 + pre.length) 0)).2
                  · have HL2 := Lib.hid (show LR.2 = 161 by rw [← HPR.out]; exact labC_bad hin hbl (by rw [hgd]; exact hlt2))
                    have HRES : Hid (R = ([], 0, 161)) := Lib.hid (by rw [HBAD.out (by rw [HL2.out]; decide), HL2.out])
                    rw [hlt2] at HLT
                    clear HAT hgd hbl hlt2
                    generalize xs.getD (k + 1 + pre.length) 0 = cc at *
                    go_wp2_with fail
                    refine (HLT.out _).mono ?_
                    rintro e wx ⟨rfl, hx⟩
                    obtain rfl := hx.symm
                    go_wp2_with fail
                    go_ret3
                    rw [HRES.out]
                    exact ⟨rfl, gi⟩
                  · have HNX : Hid (labC m (xs.drop (k + 1)) (pre ++ [(letV (xs.getD (k + 1 + pre.length) 0)).1]) = LR) := Lib.hid (by
                      rw [← HPR.out, labC_next hin hbl (by rw [hgd]; exact hlt2), hgd])
                    have hlv := letV_lt hcz
                    rw [hlt2] at HLT
                    clear HAT hgd hbl hlt2
                    generalize (letV (xs.getD (k + 1 + pre.length) 0)).1 = lc at *
                    generalize xs.getD (k + 1 + pre.length) 0 = cc at *
                    go_wp2_with fail
                    refine (HLT.out _).mono ?_
                    rintro e wx ⟨rfl, hx⟩
                    obtain rfl := hx.symm
                    have gA : Grew wr (wr.alloc (.cells #[.int .u8 lc] 5)) := (Grew.refl _).alloc _
                    have hLB : Buf (wr.alloc (.cells #[.int .u8 lc] 5)) (.slice (some ⟨wr.heap.size, 0, none⟩) 1 1) [lc] := (Row.lit wr wr.heap.size (Nat.le_refl _) #[.int .u8 lc] [lc] rfl (by unfold maxLen; simp) _ rfl 1 rfl).buf (fun x hx => by simp only [List.mem_cons, List.not_mem_nil, or_false] at hx; omega)
                    have cvt := convert_bytes hLB.bytes
                    have HADD := fun w' : World => run_str_add (P := Tryz.prog) w' (S0 ++ pre) [lc] (by have := HSB.out; rw [List.length_append]; simp only [List.length_cons, List.length_nil]; omega)
                    clear hLB
                    go_wp2_with fail
                    go_round
                    case rel => exact ⟨pre ++ [lc], by first | rfl | (rw [List.append_assoc]), by simp only [List.length_append, List.length_cons, List.length_nil]; congr 1, by simp only [List.length_append, List.length_cons, List.length_nil]; omega, hpo.app (fun x hx => by simp only [List.mem_cons, List.not_mem_nil, or_false] at hx; omega), HNX, gi.trans gA⟩
                    case measure => simp [intOf]; omega
                · have hs1 : ((n : Int) ≤ (k : Int) + ((pre.length : Int) + 1)) := by omega
                  have hw1 : wrap64 ((k : Int) + ((pre.length : Int) + 1)) = (k : Int) + ((pre.length : Int) + 1) := IntWalk.wrap64_in _ (by omega)
                  have HL2 := Lib.hid (show LR.2 = 160 by rw [← HPR.out]; exact labC_short hin (by rw [List.length_drop, ← HN.out]; omega))
                  have HRES : Hid (R = ([], 0, 160)) := Lib.hid (by rw [HBAD.out (by rw [HL2.out]; decide), HL2.out])
                  go_wp2_with fail
                  go_ret3
                  rw [HRES.out]
                  exact ⟨rfl, gi⟩
              · have hpe : pre.length = m := by omega
                have HLD := Lib.hid (show LR = (pre, 0) by rw [← HPR.out, labC_done hpe])
                have hin' : ¬ ((pre.length : Int) + 1 ≤ m) := by omega
                have hkm : k + 1 + m ≤ n := by
                  have := (labF_len m (xs.drop (k + 1)) (by rw [← HLRD.out, HLD.out])).2
                  rw [List.length_drop, ← HN.out] at this
                  omega
                have hw1 : wrap64 ((k : Int) + 1 + (m : Int)) = (k : Int) + 1 + (m : Int) := IntWalk.wrap64_in _ (by omega)
                by_cases hmany : (255 : Int) < (k : Int) + 1 + (m : Int) - (p : Int) + 1
                · have HRES : Hid (R = ([], 0, 161)) := Lib.hid (HMANY.out (by rw [HLD.out]) hmany)
                  go_wp2_with fail
                  go_ret3
                  rw [HRES.out]
                  exact ⟨rfl, gi⟩
                · have HRES : Hid (namAt xs p (k + 1 + m) (S0 ++ pre) = R) := Lib.hid (by rw [← HNEXT.out (by rw [HLD.out]) (by omega), HLD.out])
                  go_wp2_with fail
                  go_round
                  case rel => exact ⟨S0 ++ pre, k + 1 + m, rfl, by go_num, by omega, by have := HSL.out; rw [List.length_append]; omega, HSO.out.app hpo, HRES, gi⟩
                  case measure => simp [intOf]; omega
          · have hS : S0 = T ++ [46] := by rw [hS0]; unfold dotV; rw [if_neg hT]
            clear hS0
            have hne3 : (strOfNums T).toList.isEmpty = false := by
              rw [Lib.strOfNums_toList]
              cases T with
              | nil => exact absurd rfl hT
              | cons x r => rfl
            have HADD0 : ∀ w' : World, (Op.stringOp .add (strOfNums T) ⟨#[46]⟩).run Tryz.prog w' = .ok (.string (strOfNums S0)) w' := fun w' => by
              have := run_str_add (P := Tryz.prog) w' T [46] (by simp only [List.length_singleton]; omega)
              rw [← hS] at this
              exact this
            clear hT hS
            go_upto_region 12 with fail
            go_loopw [7, 10] (fun s j wi => ∃ (pre : List Int), s = .string (strOfNums (S0 ++ pre)) ∧ j = .int .i64 ((pre.length : Int) + 1) ∧ pre.length ≤ m ∧ AreBytes pre ∧ Hid (labC m (xs.drop (k + 1)) pre = LR) ∧ Grew w wi) (fun _ j _ => (m + 1 - intOf j).toNat)
            case atStart => exact ⟨[], by first | (rw [List.append_nil]; done) | (rw [List.append_nil, HS0.out]; rfl), rfl, Nat.zero_le _, fun x hx => by simp at hx, HLR0, gr⟩
            case round =>
              obtain ⟨pre, rfl, rfl, hpm, hpo, HPR, gi⟩ := hrel
              clear gr
              by_cases hin : pre.length < m
              · have hin' : (pre.length : Int) + 1 ≤ m := by omega
                by_cases hsh : k + 1 + pre.length < n
                · have hs1 : ¬ ((n : Int) ≤ (k : Int) + ((pre.length : Int) + 1)) := by omega
                  have hs2 : (k : Int) + ((pre.length : Int) + 1) < (n : Nat) := by omega
                  have hbl : pre.length < (xs.drop (k + 1)).length := by rw [List.length_drop, ← HN.out]; omega
                  have hgd : (xs.drop (k + 1)).getD pre.length 0 = xs.getD (k + 1 + pre.length) 0 := by simp only [List.getD_eq_getElem?_getD, List.getElem?_drop]
                  have HAT := Lib.hid (HAT2.out wr gi (k + 1 + pre.length) hsh)
                  have x1 : wr.cell? ⟨bk, off + (k + (pre.length + 1)), none⟩ = some (.int .u8 (xs.getD (k + 1 + pre.length) 0)) := by have := HAT.out; rwa [show off + (k + 1 + pre.length) = off + (k + (pre.length + 1)) by omega] at this
                  have hcz := HOK.out.getD (k + 1 + pre.length)
                  have HLT := Lib.hid (fun w' => letter_c (xs.getD (k + 1 + pre.length) 0) hcz w')
                  have hw1 : wrap64 ((k : Int) + ((pre.length : Int) + 1)) = (k : Int) + ((pre.length : Int) + 1) := IntWalk.wrap64_in _ (by omega)
                  cases hlt2 : (letV (xs.getD (k + 1 + pre.length) 0)).2
                  · have HL2 := Lib.hid (show LR.2 = 161 by rw [← HPR.out]; exact labC_bad hin hbl (by rw [hgd]; exact hlt2))
                    have HRES : Hid (R = ([], 0, 161)) := Lib.hid (by rw [HBAD.out (by rw [HL2.out]; decide), HL2.out])
                    rw [hlt2] at HLT
                    clear HAT hgd hbl hlt2
                    generalize xs.getD (k + 1 + pre.length) 0 = cc at *
                    go_wp2_with fail
                    refine (HLT.out _).mono ?_
                    rintro e wx ⟨rfl, hx⟩
                    obtain rfl := hx.symm
                    go_wp2_with fail
                    go_ret3
                    rw [HRES.out]
                    exact ⟨rfl, gi⟩
                  · have HNX : Hid (labC m (xs.drop (k + 1)) (pre ++ [(letV (xs.getD (k + 1 + pre.length) 0)).1]) = LR) := Lib.hid (by
                      rw [← HPR.out, labC_next hin hbl (by rw [hgd]; exact hlt2), hgd])
                    have hlv := letV_lt hcz
                    rw [hlt2] at HLT
                    clear HAT hgd hbl hlt2
                    generalize (letV (xs.getD (k + 1 + pre.length) 0)).1 = lc at *
                    generalize xs.getD (k + 1 + pre.length) 0 = cc at *
                    go_wp2_with fail
                    refine (HLT.out _).mono ?_
                    rintro e wx ⟨rfl, hx⟩
                    obtain rfl := hx.symm
                    have gA : Grew wr (wr.alloc (.cells #[.int .u8 lc] 5)) := (Grew.refl _).alloc _
                    have hLB : Buf (wr.alloc (.cells #[.int .u8 lc] 5)) (.slice (some ⟨wr.heap.size, 0, none⟩) 1 1) [lc] := (Row.lit wr wr.heap.size (Nat.le_refl _) #[.int .u8 lc] [lc] rfl (by unfold maxLen; simp) _ rfl 1 rfl).buf (fun x hx => by simp only [List.mem_cons, List.not_mem_nil, or_false] at hx; omega)
                    have cvt := convert_bytes hLB.bytes
                    have HADD := fun w' : World => run_str_add (P := Tryz.prog) w' (S0 ++ pre) [lc] (by have := HSB.out; rw [List.length_append]; simp only [List.length_cons, List.length_nil]; omega)
                    clear hLB
                    go_wp2_with fail
                    go_round
                    case rel => exact ⟨pre ++ [lc], by first | rfl | (rw [List.append_assoc]), by simp only [List.length_append, List.length_cons, List.length_nil]; congr 1, by simp only [List.length_append, List.length_cons, List.length_nil]; omega, hpo.app (fun x hx => by simp only [List.mem_cons, List.not_mem_nil, or_false] at hx; omega), HNX, gi.trans gA⟩
                    case measure => simp [intOf]; omega
                · have hs1 : ((n : Int) ≤ (k : Int) + ((pre.length : Int) + 1)) := by omega
                  have hw1 : wrap64 ((k : Int) + ((pre.length : Int) + 1)) = (k : Int) + ((pre.length : Int) + 1) := IntWalk.wrap64_in _ (by omega)
                  have HL2 := Lib.hid (show LR.2 = 160 by rw [← HPR.out]; exact labC_short hin (by rw [List.length_drop, ← HN.out]; omega))
                  have HRES : Hid (R = ([], 0, 160)) := Lib.hid (by rw [HBAD.out (by rw [HL2.out]; decide), HL2.out])
                  go_wp2_with fail
                  go_ret3
                  rw [HRES.out]
                  exact ⟨rfl, gi⟩
              · have hpe : pre.length = m := by omega
                have HLD := Lib.hid (show LR = (pre, 0) by rw [← HPR.out, labC_done hpe])
                have hin' : ¬ ((pre.length : Int) + 1 ≤ m) := by omega
                have hkm : k + 1 + m ≤ n := by
                  have := (labF_len m (xs.drop (k + 1)) (by rw [← HLRD.out, HLD.out])).2
                  rw [List.length_drop, ← HN.out] at this
                  omega
                have hw1 : wrap64 ((k : Int) + 1 + (m : Int)) = (k : Int) + 1 + (m : Int) := IntWalk.wrap64_in _ (by omega)
                by_cases hmany : (255 : Int) < (k : Int) + 1 + (m : Int) - (p : Int) + 1
                · have HRES : Hid (R = ([], 0, 161)) := Lib.hid (HMANY.out (by rw [HLD.out]) hmany)
                  go_wp2_with fail
                  go_ret3
                  rw [HRES.out]
                  exact ⟨rfl, gi⟩
                · have HRES : Hid (namAt xs p (k + 1 + m) (S0 ++ pre) = R) := Lib.hid (by rw [← HNEXT.out (by rw [HLD.out]) (by omega), HLD.out])
                  go_wp2_with fail
                  go_round
                  case rel => exact ⟨S0 ++ pre, k + 1 + m, rfl, by go_num, by omega, by have := HSL.out; rw [List.length_append]; omega, HSO.out.app hpo, HRES, gi⟩
                  case measure => simp [intOf]; omega
    · have HRES : Hid (R = ([], 0, 160)) := Lib.hid (by rw [← HK.out, namAt_end (by rw [← HN.out]; exact hlt)])
      have hlt' : ((n : Int) ≤ (k : Int)) := by omega
      go_wp2_with fail
      go_ret3
      rw [HRES.out]
      exact ⟨rfl, gr⟩
end Go.Proofs.YtnafdgpkofffaaaGreatDoor
