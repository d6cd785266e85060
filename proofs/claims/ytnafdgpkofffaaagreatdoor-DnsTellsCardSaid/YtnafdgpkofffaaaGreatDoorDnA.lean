/-
  The document's own questions for names: the labels of a text; Ask.
-/
import Derived.Test.YtnafdgpkofffaaaGreatDoorDnG
import Derived.Test.YtnafdgpkofffaaaGreatDoorStrA
set_option maxRecDepth 4000
set_option linter.unusedVariables false
set_option linter.unusedSimpArgs false
namespace Go.Proofs.YtnafdgpkofffaaaGreatDoor
open Go.RowKit

/-- A text without one dot at its end. -/
def trimV (xs : List Int) : List Int := if 0 < xs.length ∧ xs.getD (xs.length - 1) 0 = 46 then cutL xs 0 (xs.length - 1) else xs
def lenOk (cur : List Int) : Bool := decide (1 ≤ cur.length ∧ cur.length ≤ 63)
/-- Labels with dots between; cur: what has been read of the first one. -/
def labsF : List Int → List Int → Option (List Int)
  | cur, [] => if lenOk cur then some ((cur.length : Int) :: cur) else none
  | cur, c :: r => if c = 46 then (if lenOk cur then (labsF [] r).map fun x => (cur.length : Int) :: (cur ++ x) else none) else if (letV c).2 = true then labsF (cur ++ [c]) r else none
def lblO (xs : List Int) : Option (List Int) := if trimV xs = [] then some [] else labsF [] (trimV xs)
def lblV (xs : List Int) : List Int × Bool :=
  match lblO xs with
  | some o => (o ++ [0], decide (o.length + 1 ≤ 255))
  | none => ([], false)
theorem labsF_ok : ∀ cur r o, AreBytes cur → AreBytes r → labsF cur r = some o → AreBytes o
  | cur, [], o, hc, _, h => by
    unfold labsF at h
    split at h
    · rename_i hl
      simp only [Option.some.injEq] at h
      subst h
      unfold lenOk at hl
      have := of_decide_eq_true hl
      intro x hx
      rcases List.mem_cons.1 hx with rfl | hx
      · omega
      · exact hc x hx
    · simp at h
  | cur, c :: r, o, hc, hr, h => by
    have hr' : AreBytes r := fun z hz => hr z (List.mem_cons_of_mem _ hz)
    unfold labsF at h
    split at h
    · split at h
      · rename_i hl
        obtain ⟨x, hx, rfl⟩ := Option.map_eq_some_iff.1 h
        have := labsF_ok [] r x (fun z hz => by simp at hz) hr' hx
        unfold lenOk at hl
        have hl' := of_decide_eq_true hl
        intro y hy
        rcases List.mem_cons.1 hy with rfl | hy
        · omega
        · rcases List.mem_append.1 hy with hy | hy
          · exact hc y hy
          · exact this y hy
      · simp at h
    · split at h
      · exact labsF_ok (cur ++ [c]) r o (hc.app (fun z hz => by simp only [List.mem_cons, List.not_mem_nil, or_false] at hz; subst hz; exact hr z (by simp))) hr' h
      · simp at h
theorem labsF_nil (cur : List Int) : labsF cur [] = if lenOk cur = true then some ((cur.length : Int) :: cur) else none := by rw [labsF]
theorem labsF_dot (cur r : List Int) : labsF cur (46 :: r) = if lenOk cur = true then (labsF [] r).map (fun x => (cur.length : Int) :: (cur ++ x)) else none := by rw [labsF, if_pos rfl]
theorem labsF_let {c : Int} (h : c ≠ 46) (cur r : List Int) : labsF cur (c :: r) = if (letV c).2 = true then labsF (cur ++ [c]) r else none := by rw [labsF, if_neg h]
theorem cut_snoc {t : List Int} {from' i : Nat} (h : from' ≤ i) (hi : i < t.length) : cutL t from' (i + 1) = cutL t from' i ++ [t.getD i 0] := by
  rw [← cutL_join t h (by omega : i ≤ i + 1)]
  congr 1
  unfold cutL
  rw [drop_cons hi, show i + 1 - i = 1 by omega]
  rfl
set_option maxHeartbeats 8000000 in
theorem labels_in {xs : List Int} (hxo : AreBytes xs) (hl : xs.length ≤ 70000) (w : World) (R : Option (List Int)) (hR : R = lblO xs) (B : Bool) (hB : B = (lblV xs).2) :
    Calls Tryz.prog 29 #[.string (strOfNums xs)] w fun e w' => ∃ u, e = .returned (.tuple #[u, .bool B]) ∧ (B = true → ∀ o, R = some o → Buf w' u (o ++ [0])) ∧ Grew w w' := by
  have hBn : R = none → B = false := fun h => by rw [hB]; unfold lblV; rw [← hR, h]
  have hBs : ∀ o, R = some o → B = decide (o.length + 1 ≤ 255) := fun o h => by rw [hB]; unfold lblV; rw [← hR, h]
  have HNONE : Hid (R = none → ∀ (w' : World), Grew w w' → ∃ u, Ending.returned (.tuple #[.slice none 0 0, .bool false]) = .returned (.tuple #[u, .bool B]) ∧ (B = true → ∀ o, R = some o → Buf w' u (o ++ [0])) ∧ Grew w w') := Lib.hid (fun h w' g => ⟨_, by rw [hBn h], fun hb => by rw [hBn h] at hb; simp at hb, g⟩)
  have HBS := Lib.hid hBs
  obtain ⟨t, ht⟩ : ∃ t, t = trimV xs := ⟨_, rfl⟩
  have hto : AreBytes t := by rw [ht]; unfold trimV; split; exact hxo.cut _ _; exact hxo
  have htl : t.length ≤ xs.length := by rw [ht]; unfold trimV; split; rw [cutL_length (by omega) (by omega)]; omega; omega
  have HTO := Lib.hid hto
  have HR : Hid (R = if t = [] then some [] else labsF [] t) := Lib.hid (by rw [hR, ht]; rfl)
  have hsz := strOf_size xs
  have hszt := strOf_size t
  clear hB hBn hBs hR
  go_enter Tryz.func29, Tryz.ntmps29
  go_upto_region 2 with fail
  obtain ⟨d, hd⟩ : ∃ d, d = decide (0 < xs.length ∧ xs.getD (xs.length - 1) 0 = 46) := ⟨_, rfl⟩
  have HD := Lib.hid hd
  clear hd
  go_cut [21] (fun v wx => v = .bool d ∧ wx = w)
  case first =>
    by_cases h0 : 0 < xs.length
    · have h0' : (0 : Int) < (xs.length : Int) := by omega
      have ew : wrap64 ((xs.length : Int) - 1) = (xs.length : Int) - 1 := IntWalk.wrap64_in _ (by omega)
      have hix : ∀ w', (Instr.index 9 (.string (strOfNums xs)) (.int .i64 ((xs.length : Int) - 1))).run Tryz.prog w' = .ok (.int .u8 (xs.getD (xs.length - 1) 0)) w' := fun w' => by
        have := str_index hxo .i64 (xs.length - 1) (by omega) w'
        rwa [show ((xs.length - 1 : Nat) : Int) = (xs.length : Int) - 1 by omega] at this
      have HDD : Hid (d = (xs.getD (xs.length - 1) 0 == 46)) := Lib.hid (by
        rw [HD.out]
        by_cases e : xs.getD (xs.length - 1) 0 = 46
        · rw [decide_eq_true ⟨h0, e⟩, e]; rfl
        · rw [decide_eq_false (fun h => e h.2)]; exact (beq_eq_false_iff_ne.2 e).symm)
      generalize xs.getD (xs.length - 1) 0 = y at *
      clear h0
      go_wp2_with fail
      go_meet
      exact ⟨congrArg Value.bool HDD.out.symm, rfl⟩
    · have h0' : ¬ (0 : Int) < (xs.length : Int) := by omega
      have HDD : Hid (d = false) := Lib.hid (by rw [HD.out]; exact decide_eq_false (fun h => h0 h.1))
      clear h0
      go_wp2_with fail
      go_meet
      exact ⟨congrArg Value.bool HDD.out.symm, rfl⟩
  obtain ⟨rfl, hw⟩ := hcut
  obtain rfl := hw.symm
  go_upto_if 21 with fail
  go_cut [4] (fun v wx => v = .string (strOfNums t) ∧ wx = w)
  case first =>
    cases d
    · have HT2 : Hid (t = xs) := Lib.hid (by rw [ht]; unfold trimV; rw [if_neg (fun h => by have := HD.out; rw [decide_eq_true h] at this; simp at this)])
      go_wp2_with fail
      go_meet
      exact ⟨by rw [HT2.out], rfl⟩
    · have hdd := of_decide_eq_true HD.out.symm
      have HT2 : Hid (t = cutL xs 0 (xs.length - 1)) := Lib.hid (by rw [ht]; unfold trimV; rw [if_pos hdd])
      have ew : wrap64 ((xs.length : Int) - 1) = (xs.length : Int) - 1 := IntWalk.wrap64_in _ (by omega)
      have hsl : ∀ w', (Instr.slice 9 (.string (strOfNums xs)) none (some (.int .i64 ((xs.length : Int) - 1))) none).run Tryz.prog w' = .ok (.string (strOfNums (cutL xs 0 (xs.length - 1)))) w' := fun w' => by
        have := str_slice_h (xs := xs) .i64 (xs.length - 1) (by omega) w'
        rwa [show ((xs.length - 1 : Nat) : Int) = (xs.length : Int) - 1 by omega] at this
      clear hdd
      go_wp2_with fail
      go_meet
      exact ⟨by rw [HT2.out], rfl⟩
  obtain ⟨rfl, hw⟩ := hcut
  obtain rfl := hw.symm
  clear ht HD hsz
  have HSZ := Lib.hid hszt
  have hst : (t = [] ∧ R = some []) ∨ (t ≠ [] ∧ (labsF (cutL t 0 0) (t.drop 0)).map (fun x => ([] : List Int) ++ x) = R) := by
    by_cases hte : t = []
    · exact .inl ⟨hte, by rw [HR.out, if_pos hte]⟩
    · refine .inr ⟨hte, ?_⟩
      rw [HR.out, if_neg hte, show cutL t 0 0 = [] by simp [cutL], List.drop_zero]
      cases labsF [] t <;> rfl
  have HST := Lib.hid hst
  clear HR hst
  go_upto_region 7 with fail
  go_loopw [5, 6, 7] (fun o f i wr => ∃ (O : List Int) (fr k : Nat), f = .int .i64 fr ∧ i = .int .i64 k ∧ Hid (Row wr w.heap.size o O) ∧ AreBytes O ∧ O.length ≤ 2 * fr ∧ fr ≤ k ∧ k ≤ t.length + 1 ∧ ((k ≤ t.length ∧ t ≠ [] ∧ Hid ((labsF (cutL t fr k) (t.drop k)).map (fun x => O ++ x) = R)) ∨ ((t = [] ∨ k = t.length + 1) ∧ Hid (R = some O))) ∧ Grew w wr) (fun _ _ i _ => (t.length + 2 - intOf i).toNat)
  case atStart => exact ⟨[], 0, 0, rfl, rfl, Lib.hid (Row.nil w w.heap.size), fun x hx => by simp at hx, by simp, by omega, by omega, by rcases HST.out with ⟨h1, h2⟩ | ⟨h1, h2⟩; exact .inr ⟨.inl h1, Lib.hid h2⟩; exact .inl ⟨by omega, h1, Lib.hid h2⟩, Grew.refl _⟩
  case round =>
    obtain ⟨O, fr, i, rfl, rfl, RO, hOo, hOL, hfi, hil, hrl, hG⟩ := hrel
    have HOL := Lib.hid hOL
    rcases hrl with ⟨hit, hte, HREL⟩ | ⟨hit, HDONE⟩
    · have HTE := Lib.hid hte
      have hne3 : (strOfNums t).toList.isEmpty = false := by
        rw [Lib.strOfNums_toList]
        cases t with
        | nil => exact absurd rfl hte
        | cons x r => rfl
      clear hte
      have hi1 : (i : Int) ≤ (t.length : Int) := by omega
      by_cases hi : i < t.length
      · have hi2 : (i : Int) < (t.length : Int) := by omega
        have hixi := fun w' => str_index HTO.out .i64 i hi w'
        by_cases hdot : t.getD i 0 = 46
        · rw [hdot] at hixi
          obtain ⟨m, hm⟩ : ∃ m : Nat, m = i - fr := ⟨_, rfl⟩
          have hcl : (cutL t fr i).length = m := by rw [cutL_length (by omega) (by omega), hm]
          have hmi : (i : Int) - (fr : Int) = (m : Int) := by omega
          have hw3 : wrap64 ((i : Int) - (fr : Int)) = (m : Int) := by rw [hmi]; exact IntWalk.wrap64_in _ (by omega)
          have EWs := Lib.hid (show IntKind.i64.wrap ((i : Int) - (fr : Int)) = (m : Int) by rw [hmi]; exact IntWalk.i64_in _ (by omega))
          
          have hcases : (lenOk (cutL t fr i) = true ∧ 1 ≤ m ∧ m ≤ 63) ∨ (¬ lenOk (cutL t fr i) = true ∧ (m < 1 ∨ 63 < m)) := by
            unfold lenOk
            rw [hcl, decide_eq_true_eq]
            omega
          rcases hcases with ⟨hok, hmm⟩ | ⟨hok, hbad⟩
          · have HNXT : Hid ((labsF (cutL t (i + 1) (i + 1)) (t.drop (i + 1))).map (fun x => O ++ [(m : Int)] ++ cutL t fr i ++ x) = R) := Lib.hid (by
              rw [← HREL.out]
              rw [drop_cons hi, hdot, labsF_dot, if_pos hok, hcl, show cutL t (i + 1) (i + 1) = [] by simp [cutL], Option.map_map]; congr 1; funext x; simp [Function.comp])
            have EWm := Lib.hid (show IntKind.u8.wrap (m : Int) = (m : Int) by rw [wrap_u8]; omega)
            have HOK1 := Lib.hid (show AreBytes [(m : Int)] from fun x hx => by simp only [List.mem_cons, List.not_mem_nil, or_false] at hx; omega)
            have HCO := Lib.hid (show AreBytes (cutL t fr i) from HTO.out.cut fr i)
            have HCL := Lib.hid hcl
            have HSL := Lib.hid (show ∀ w' : World, (Instr.slice 9 (.string (strOfNums t)) (some (.int .i64 fr)) (some (.int .i64 i)) none).run Tryz.prog w' = .ok (.string (strOfNums (cutL t fr i))) w' from fun w' => str_slice .i64 .i64 fr i (by omega) (by omega) w')
            have HOL2 := Lib.hid (show (O ++ [(m : Int)] ++ cutL t fr i).length ≤ 2 * (i + 1) by have := HOL.out; rw [List.length_append, List.length_append, hcl, List.length_singleton]; omega)
            have hm1 : ¬ (m : Int) < 1 := by omega
            have hm2 : ¬ (63 : Int) < (m : Int) := by omega
            have hm3 : ¬ (i : Int) - (fr : Int) < 1 := by omega
            have hm4 : ¬ (63 : Int) < (i : Int) - (fr : Int) := by omega
            clear hcl hok hm hmi hmm 
            go_upto_region 15 with fail
            replace RO := Lib.hid (RO.out.grew ((Grew.refl wr).drew1))
            have hst := hG.drew1
            refine wp_region_held_drew (S := fun w' => Grew w w') (by kernel_rfl) (by exact hst) (fun hHeld => ?_)
            replace hHeld : Grew w wr.drew := hHeld
            generalize wr.drew = wq1 at *
            refine wpAnyH_take (i := 0) (v := ?_) rfl (by kernel_rfl) (by kernel_rfl) (by kernel_rfl) (fun _ _ _ h => h) (Or.inl ⟨by rfl, ?_⟩) hHeld ?_
            rotate_left
            · intro wq hSw
              replace hSw : Grew w wq := hSw
              go_simp
              try with_reducible rfl
            try simp only [List.getElem_toArray, List.getElem_cons_succ, List.getElem_cons_zero, Act.put, List.setIfInBounds_toArray, List.set_cons_zero, List.set_cons_succ]
            refine wpAnyH_take (i := 1) (v := ?_) rfl (by kernel_rfl) (by kernel_rfl) (by kernel_rfl) (fun _ _ _ h => h) (Or.inl ⟨by rfl, ?_⟩) hHeld ?_
            rotate_left
            · intro wq hSw
              replace hSw : Grew w wq := hSw
              go_simp
              try with_reducible rfl
            try simp only [List.getElem_toArray, List.getElem_cons_succ, List.getElem_cons_zero, Act.put, List.setIfInBounds_toArray, List.set_cons_zero, List.set_cons_succ]
            refine wpAnyH_take (i := 2) (v := ?_) rfl (by kernel_rfl) (by kernel_rfl) (by kernel_rfl) (fun _ _ _ h => h) (Or.inl ⟨by rfl, ?_⟩) hHeld ?_
            rotate_left
            · intro wq hSw
              replace hSw : Grew w wq := hSw
              go_simp
              try with_reducible rfl
            try simp only [List.getElem_toArray, List.getElem_cons_succ, List.getElem_cons_zero, Act.put, List.setIfInBounds_toArray, List.set_cons_zero, List.set_cons_succ]
            refine wpAnyH_take (i := 3) (v := ?_) rfl (by kernel_rfl) (by kernel_rfl) (by kernel_rfl) (fun _ _ _ h => h) (Or.inl ⟨by rfl, ?_⟩) hHeld ?_
            rotate_left
            · intro wq hSw
              replace hSw : Grew w wq := hSw
              have ew := EWs.out
              go_simp
              try with_reducible rfl
            try simp only [List.getElem_toArray, List.getElem_cons_succ, List.getElem_cons_zero, Act.put, List.setIfInBounds_toArray, List.set_cons_zero, List.set_cons_succ]
            refine wpAnyH_take (i := 4) (v := ?_) rfl (by kernel_rfl) (by kernel_rfl) (by kernel_rfl) (fun _ _ _ h => h) (Or.inl ⟨by rfl, ?_⟩) hHeld ?_
            rotate_left
            · intro wq hSw
              replace hSw : Grew w wq := hSw
              have ew := EWm.out
              go_simp
              try with_reducible rfl
            try simp only [List.getElem_toArray, List.getElem_cons_succ, List.getElem_cons_zero, Act.put, List.setIfInBounds_toArray, List.set_cons_zero, List.set_cons_succ]
            refine wpAnyH_take (i := 7) (v := ?_) rfl (by kernel_rfl) (by kernel_rfl) (by kernel_rfl) (fun _ _ _ h => h) (Or.inl ⟨by rfl, ?_⟩) hHeld ?_
            rotate_left
            · intro wq hSw
              replace hSw : Grew w wq := hSw
              go_simp
              try with_reducible rfl
            try simp only [List.getElem_toArray, List.getElem_cons_succ, List.getElem_cons_zero, Act.put, List.setIfInBounds_toArray, List.set_cons_zero, List.set_cons_succ]
            refine wpAnyH_take (i := 8) (v := ?_) rfl (by kernel_rfl) (by kernel_rfl) (by kernel_rfl) (fun _ _ _ h => h) (Or.inl ⟨by rfl, ?_⟩) hHeld ?_
            rotate_left
            · intro wq hSw
              replace hSw : Grew w wq := hSw
              go_simp
              try with_reducible rfl
            try simp only [List.getElem_toArray, List.getElem_cons_succ, List.getElem_cons_zero, Act.put, List.setIfInBounds_toArray, List.set_cons_zero, List.set_cons_succ]
            refine wpAnyH_take (i := 9) (v := ?_) rfl (by kernel_rfl) (by kernel_rfl) (by kernel_rfl) (fun _ _ _ h => h) (Or.inl ⟨by rfl, ?_⟩) hHeld ?_
            rotate_left
            · intro wq hSw
              replace hSw : Grew w wq := hSw
              go_simp
              try with_reducible rfl
            try simp only [List.getElem_toArray, List.getElem_cons_succ, List.getElem_cons_zero, Act.put, List.setIfInBounds_toArray, List.set_cons_zero, List.set_cons_succ]
            refine wpAnyH_take (i := 10) (v := ?_) rfl (by kernel_rfl) (by kernel_rfl) (by kernel_rfl) (fun _ _ _ h => h) (Or.inl ⟨by rfl, ?_⟩) hHeld ?_
            rotate_left
            · intro wq hSw
              replace hSw : Grew w wq := hSw
              have r := HSL.out
              go_simp
              try with_reducible rfl
            try simp only [List.getElem_toArray, List.getElem_cons_succ, List.getElem_cons_zero, Act.put, List.setIfInBounds_toArray, List.set_cons_zero, List.set_cons_succ]
            refine wpAnyH_ready (rs := [5]) (by kernel_rfl) (by simp) ?_
            refine AllReadyH.cons rfl (fun K hK => ?_) AllReadyH.nil
            go_simp
            have H0 : Hid (Buf (wq1.alloc (.cells #[.int .u8 (m : Nat)] 5)) (.slice (some ⟨wq1.heap.size, 0, none⟩) 1 1) [(m : Int)]) := Lib.hid ((Row.lit wq1 wq1.heap.size (Nat.le_refl _) #[.int .u8 (m : Nat)] [(m : Int)] rfl (by unfold maxLen; simp) _ rfl 1 rfl).buf HOK1.out)
            have gk2 : Grew wq1 (wq1.alloc (.cells #[.int .u8 (m : Nat)] 5)) := (Grew.refl _).alloc _
            replace RO := Lib.hid (RO.out.grew gk2)
            generalize (wq1.alloc (.cells #[.int .u8 (m : Nat)] 5)) = wk2 at *
            generalize wq1.heap.size = L0 at *
            refine hK.out _ _ (hHeld.trans gk2) (fun hHeld => ?_)
            clear hK K
            try simp only [List.getElem_toArray, List.getElem_cons_succ, List.getElem_cons_zero, Act.put, List.setIfInBounds_toArray, List.set_cons_zero, List.set_cons_succ]
            refine wpAnyH_ready (rs := [6]) (by kernel_rfl) (by simp) ?_
            refine AllReadyH.cons rfl (fun K hK => ?_) AllReadyH.nil
            refine step_append_t rfl (.tmp 66) (.tmp 71) rfl hHeld RO.out H0.out (by rfl) (by rfl) (by have := HOL.out; simp only [List.length_cons, List.length_nil]; omega) ?_
            intro v1 wk3 R1 gk3
            clear RO H0
            refine hK.out _ _ (gk3) (fun hHeld => ?_)
            clear hK K
            try simp only [List.getElem_toArray, List.getElem_cons_succ, List.getElem_cons_zero, Act.put, List.setIfInBounds_toArray, List.set_cons_zero, List.set_cons_succ]
            refine wpAnyH_ready (rs := [11]) (by kernel_rfl) (by simp) ?_
            refine AllReadyH.cons rfl (fun K hK => ?_) AllReadyH.nil
            refine step_append_str rfl (.tmp 72) (.tmp 76) rfl hHeld R1.out HCO.out (by rfl) (by rfl) (by have := HOL.out; have := HCL.out; simp only [List.length_append, List.length_cons, List.length_nil]; omega) ?_
            intro v2 wk4 R2 gk4 gb
            clear gb R1
            refine hK.out _ _ (gk4) (fun hHeld => ?_)
            clear hK K
            try simp only [List.getElem_toArray, List.getElem_cons_succ, List.getElem_cons_zero, Act.put, List.setIfInBounds_toArray, List.set_cons_zero, List.set_cons_succ]
            refine wpAnyH_take (i := 12) (v := ?_) rfl (by kernel_rfl) (by kernel_rfl) (by kernel_rfl) (fun _ _ _ h => h) (Or.inl ⟨by rfl, ?_⟩) hHeld ?_
            rotate_left
            · intro wq hSw
              replace hSw : Grew w wq := hSw
              go_simp
              try with_reducible rfl
            try simp only [List.getElem_toArray, List.getElem_cons_succ, List.getElem_cons_zero, Act.put, List.setIfInBounds_toArray, List.set_cons_zero, List.set_cons_succ]
            refine wpAnyH_done (by kernel_rfl) ?_ _
            try simp only [List.getElem_toArray, List.getElem_cons_succ, List.getElem_cons_zero, Act.put, List.setIfInBounds_toArray, List.set_cons_zero, List.set_cons_succ]
            go_wp2_with fail
            go_round
            case rel => exact ⟨O ++ [(m : Int)] ++ cutL t fr i, i + 1, i + 1, by go_num, by go_num, R2, (hOo.app HOK1.out).app HCO.out, HOL2.out, by omega, by omega, .inl ⟨by omega, HTE.out, HNXT⟩, hHeld⟩
            case measure => have := HSZ.out; simp [intOf]; omega
          · have HRES : Hid (R = none) := Lib.hid (by
              rw [← HREL.out]
              rw [drop_cons hi, hdot, labsF_dot, if_neg hok]; rfl)
            by_cases hb1 : m < 1
            · have hm1 : (m : Int) < 1 := by omega
              have hm3 : (i : Int) - (fr : Int) < 1 := by omega
              clear hok hcl hm hmi  hb1 hbad
              go_wp2_with fail
              go_ret2
              exact HNONE.out HRES.out _ hG
            · have hm1 : ¬ (m : Int) < 1 := by omega
              have hm2 : (63 : Int) < (m : Int) := by omega
              have hm3 : ¬ (i : Int) - (fr : Int) < 1 := by omega
              have hm4 : (63 : Int) < (i : Int) - (fr : Int) := by omega
              clear hok hcl hm hmi  hb1 hbad
              go_wp2_with fail
              go_ret2
              exact HNONE.out HRES.out _ hG
        · have hnd : (t.getD i 0 != 46) = true := by simpa using hdot
          have hcz := HTO.out.getD i
          have HLT := Lib.hid (fun w' => letter_c (t.getD i 0) hcz w')
          cases hlv : (letV (t.getD i 0)).2
          · have HRES : Hid (R = none) := Lib.hid (by rw [← HREL.out, drop_cons hi]; rw [labsF_let hdot, if_neg (by rw [hlv]; simp)]; rfl)
            rw [hlv] at HLT
            clear hlv hdot
            generalize t.getD i 0 = cc at *
            go_wp2_with fail
            refine (HLT.out _).mono ?_
            rintro e wx ⟨rfl, hx⟩
            obtain rfl := hx.symm
            go_wp2_with fail
            go_ret2
            exact HNONE.out HRES.out _ hG
          · have HNXT : Hid ((labsF (cutL t fr (i + 1)) (t.drop (i + 1))).map (fun x => O ++ x) = R) := Lib.hid (by
              rw [← HREL.out, cut_snoc hfi hi]
              rw [drop_cons hi, labsF_let hdot, if_pos hlv])
            rw [hlv] at HLT
            clear hlv hdot
            generalize t.getD i 0 = cc at *
            go_wp2_with fail
            refine (HLT.out _).mono ?_
            rintro e wx ⟨rfl, hx⟩
            obtain rfl := hx.symm
            go_wp2_with fail
            go_round
            case rel => exact ⟨O, fr, i + 1, rfl, by go_num, RO, hOo, HOL.out, by omega, by omega, .inl ⟨by omega, HTE.out, HNXT⟩, hG⟩
            case measure => have := HSZ.out; simp [intOf]; omega
      · have hie : i = t.length := by omega
        have hi2 : ¬ (i : Int) < (t.length : Int) := by omega
        obtain ⟨m, hm⟩ : ∃ m : Nat, m = i - fr := ⟨_, rfl⟩
        have hcl : (cutL t fr i).length = m := by rw [cutL_length (by omega) (by omega), hm]
        have hmi : (i : Int) - (fr : Int) = (m : Int) := by omega
        have hw3 : wrap64 ((i : Int) - (fr : Int)) = (m : Int) := by rw [hmi]; exact IntWalk.wrap64_in _ (by omega)
        have EWs := Lib.hid (show IntKind.i64.wrap ((i : Int) - (fr : Int)) = (m : Int) by rw [hmi]; exact IntWalk.i64_in _ (by omega))
        have HIE := Lib.hid hie
        have hcases : (lenOk (cutL t fr i) = true ∧ 1 ≤ m ∧ m ≤ 63) ∨ (¬ lenOk (cutL t fr i) = true ∧ (m < 1 ∨ 63 < m)) := by
          unfold lenOk
          rw [hcl, decide_eq_true_eq]
          omega
        rcases hcases with ⟨hok, hmm⟩ | ⟨hok, hbad⟩
        · have HNXT : Hid (R = some (O ++ [(m : Int)] ++ cutL t fr i)) := Lib.hid (by
            rw [← HREL.out]
            rw [show t.drop i = [] by rw [hie, List.drop_length], labsF_nil, if_pos hok, hcl]; simp)
          have EWm := Lib.hid (show IntKind.u8.wrap (m : Int) = (m : Int) by rw [wrap_u8]; omega)
          have HOK1 := Lib.hid (show AreBytes [(m : Int)] from fun x hx => by simp only [List.mem_cons, List.not_mem_nil, or_false] at hx; omega)
          have HCO := Lib.hid (show AreBytes (cutL t fr i) from HTO.out.cut fr i)
          have HCL := Lib.hid hcl
          have HSL := Lib.hid (show ∀ w' : World, (Instr.slice 9 (.string (strOfNums t)) (some (.int .i64 fr)) (some (.int .i64 i)) none).run Tryz.prog w' = .ok (.string (strOfNums (cutL t fr i))) w' from fun w' => str_slice .i64 .i64 fr i (by omega) (by omega) w')
          have HOL2 := Lib.hid (show (O ++ [(m : Int)] ++ cutL t fr i).length ≤ 2 * (i + 1) by have := HOL.out; rw [List.length_append, List.length_append, hcl, List.length_singleton]; omega)
          have hm1 : ¬ (m : Int) < 1 := by omega
          have hm2 : ¬ (63 : Int) < (m : Int) := by omega
          have hm3 : ¬ (i : Int) - (fr : Int) < 1 := by omega
          have hm4 : ¬ (63 : Int) < (i : Int) - (fr : Int) := by omega
          clear hcl hok hm hmi hmm hie
          go_upto_region 15 with fail
          replace RO := Lib.hid (RO.out.grew ((Grew.refl wr).drew1))
          have hst := hG.drew1
          refine wp_region_held_drew (S := fun w' => Grew w w') (by kernel_rfl) (by exact hst) (fun hHeld => ?_)
          replace hHeld : Grew w wr.drew := hHeld
          generalize wr.drew = wq1 at *
          refine wpAnyH_take (i := 0) (v := ?_) rfl (by kernel_rfl) (by kernel_rfl) (by kernel_rfl) (fun _ _ _ h => h) (Or.inl ⟨by rfl, ?_⟩) hHeld ?_
          rotate_left
          · intro wq hSw
            replace hSw : Grew w wq := hSw
            go_simp
            try with_reducible rfl
          try simp only [List.getElem_toArray, List.getElem_cons_succ, List.getElem_cons_zero, Act.put, List.setIfInBounds_toArray, List.set_cons_zero, List.set_cons_succ]
          refine wpAnyH_take (i := 1) (v := ?_) rfl (by kernel_rfl) (by kernel_rfl) (by kernel_rfl) (fun _ _ _ h => h) (Or.inl ⟨by rfl, ?_⟩) hHeld ?_
          rotate_left
          · intro wq hSw
            replace hSw : Grew w wq := hSw
            go_simp
            try with_reducible rfl
          try simp only [List.getElem_toArray, List.getElem_cons_succ, List.getElem_cons_zero, Act.put, List.setIfInBounds_toArray, List.set_cons_zero, List.set_cons_succ]
          refine wpAnyH_take (i := 2) (v := ?_) rfl (by kernel_rfl) (by kernel_rfl) (by kernel_rfl) (fun _ _ _ h => h) (Or.inl ⟨by rfl, ?_⟩) hHeld ?_
          rotate_left
          · intro wq hSw
            replace hSw : Grew w wq := hSw
            go_simp
            try with_reducible rfl
          try simp only [List.getElem_toArray, List.getElem_cons_succ, List.getElem_cons_zero, Act.put, List.setIfInBounds_toArray, List.set_cons_zero, List.set_cons_succ]
          refine wpAnyH_take (i := 3) (v := ?_) rfl (by kernel_rfl) (by kernel_rfl) (by kernel_rfl) (fun _ _ _ h => h) (Or.inl ⟨by rfl, ?_⟩) hHeld ?_
          rotate_left
          · intro wq hSw
            replace hSw : Grew w wq := hSw
            have ew := EWs.out
            go_simp
            try with_reducible rfl
          try simp only [List.getElem_toArray, List.getElem_cons_succ, List.getElem_cons_zero, Act.put, List.setIfInBounds_toArray, List.set_cons_zero, List.set_cons_succ]
          refine wpAnyH_take (i := 4) (v := ?_) rfl (by kernel_rfl) (by kernel_rfl) (by kernel_rfl) (fun _ _ _ h => h) (Or.inl ⟨by rfl, ?_⟩) hHeld ?_
          rotate_left
          · intro wq hSw
            replace hSw : Grew w wq := hSw
            have ew := EWm.out
            go_simp
            try with_reducible rfl
          try simp only [List.getElem_toArray, List.getElem_cons_succ, List.getElem_cons_zero, Act.put, List.setIfInBounds_toArray, List.set_cons_zero, List.set_cons_succ]
          refine wpAnyH_take (i := 7) (v := ?_) rfl (by kernel_rfl) (by kernel_rfl) (by kernel_rfl) (fun _ _ _ h => h) (Or.inl ⟨by rfl, ?_⟩) hHeld ?_
          rotate_left
          · intro wq hSw
            replace hSw : Grew w wq := hSw
            go_simp
            try with_reducible rfl
          try simp only [List.getElem_toArray, List.getElem_cons_succ, List.getElem_cons_zero, Act.put, List.setIfInBounds_toArray, List.set_cons_zero, List.set_cons_succ]
          refine wpAnyH_take (i := 8) (v := ?_) rfl (by kernel_rfl) (by kernel_rfl) (by kernel_rfl) (fun _ _ _ h => h) (Or.inl ⟨by rfl, ?_⟩) hHeld ?_
          rotate_left
          · intro wq hSw
            replace hSw : Grew w wq := hSw
            go_simp
            try with_reducible rfl
          try simp only [List.getElem_toArray, List.getElem_cons_succ, List.getElem_cons_zero, Act.put, List.setIfInBounds_toArray, List.set_cons_zero, List.set_cons_succ]
          refine wpAnyH_take (i := 9) (v := ?_) rfl (by kernel_rfl) (by kernel_rfl) (by kernel_rfl) (fun _ _ _ h => h) (Or.inl ⟨by rfl, ?_⟩) hHeld ?_
          rotate_left
          · intro wq hSw
            replace hSw : Grew w wq := hSw
            go_simp
            try with_reducible rfl
          try simp only [List.getElem_toArray, List.getElem_cons_succ, List.getElem_cons_zero, Act.put, List.setIfInBounds_toArray, List.set_cons_zero, List.set_cons_succ]
          refine wpAnyH_take (i := 10) (v := ?_) rfl (by kernel_rfl) (by kernel_rfl) (by kernel_rfl) (fun _ _ _ h => h) (Or.inl ⟨by rfl, ?_⟩) hHeld ?_
          rotate_left
          · intro wq hSw
            replace hSw : Grew w wq := hSw
            have r := HSL.out
            go_simp
            try with_reducible rfl
          try simp only [List.getElem_toArray, List.getElem_cons_succ, List.getElem_cons_zero, Act.put, List.setIfInBounds_toArray, List.set_cons_zero, List.set_cons_succ]
          refine wpAnyH_ready (rs := [5]) (by kernel_rfl) (by simp) ?_
          refine AllReadyH.cons rfl (fun K hK => ?_) AllReadyH.nil
          go_simp
          have H0 : Hid (Buf (wq1.alloc (.cells #[.int .u8 (m : Nat)] 5)) (.slice (some ⟨wq1.heap.size, 0, none⟩) 1 1) [(m : Int)]) := Lib.hid ((Row.lit wq1 wq1.heap.size (Nat.le_refl _) #[.int .u8 (m : Nat)] [(m : Int)] rfl (by unfold maxLen; simp) _ rfl 1 rfl).buf HOK1.out)
          have gk2 : Grew wq1 (wq1.alloc (.cells #[.int .u8 (m : Nat)] 5)) := (Grew.refl _).alloc _
          replace RO := Lib.hid (RO.out.grew gk2)
          generalize (wq1.alloc (.cells #[.int .u8 (m : Nat)] 5)) = wk2 at *
          generalize wq1.heap.size = L0 at *
          refine hK.out _ _ (hHeld.trans gk2) (fun hHeld => ?_)
          clear hK K
          try simp only [List.getElem_toArray, List.getElem_cons_succ, List.getElem_cons_zero, Act.put, List.setIfInBounds_toArray, List.set_cons_zero, List.set_cons_succ]
          refine wpAnyH_ready (rs := [6]) (by kernel_rfl) (by simp) ?_
          refine AllReadyH.cons rfl (fun K hK => ?_) AllReadyH.nil
          refine step_append_t rfl (.tmp 66) (.tmp 71) rfl hHeld RO.out H0.out (by rfl) (by rfl) (by have := HOL.out; simp only [List.length_cons, List.length_nil]; omega) ?_
          intro v1 wk3 R1 gk3
          clear RO H0
          refine hK.out _ _ (gk3) (fun hHeld => ?_)
          clear hK K
          try simp only [List.getElem_toArray, List.getElem_cons_succ, List.getElem_cons_zero, Act.put, List.setIfInBounds_toArray, List.set_cons_zero, List.set_cons_succ]
          refine wpAnyH_ready (rs := [11]) (by kernel_rfl) (by simp) ?_
          refine AllReadyH.cons rfl (fun K hK => ?_) AllReadyH.nil
          refine step_append_str rfl (.tmp 72) (.tmp 76) rfl hHeld R1.out HCO.out (by rfl) (by rfl) (by have := HOL.out; have := HCL.out; simp only [List.length_append, List.length_cons, List.length_nil]; omega) ?_
          intro v2 wk4 R2 gk4 gb
          clear gb R1
          refine hK.out _ _ (gk4) (fun hHeld => ?_)
          clear hK K
          try simp only [List.getElem_toArray, List.getElem_cons_succ, List.getElem_cons_zero, Act.put, List.setIfInBounds_toArray, List.set_cons_zero, List.set_cons_succ]
          refine wpAnyH_take (i := 12) (v := ?_) rfl (by kernel_rfl) (by kernel_rfl) (by kernel_rfl) (fun _ _ _ h => h) (Or.inl ⟨by rfl, ?_⟩) hHeld ?_
          rotate_left
          · intro wq hSw
            replace hSw : Grew w wq := hSw
            go_simp
            try with_reducible rfl
          try simp only [List.getElem_toArray, List.getElem_cons_succ, List.getElem_cons_zero, Act.put, List.setIfInBounds_toArray, List.set_cons_zero, List.set_cons_succ]
          refine wpAnyH_done (by kernel_rfl) ?_ _
          try simp only [List.getElem_toArray, List.getElem_cons_succ, List.getElem_cons_zero, Act.put, List.setIfInBounds_toArray, List.set_cons_zero, List.set_cons_succ]
          go_wp2_with fail
          go_round
          case rel => exact ⟨O ++ [(m : Int)] ++ cutL t fr i, i + 1, i + 1, by go_num, by go_num, R2, (hOo.app HOK1.out).app HCO.out, HOL2.out, by omega, by omega, .inr ⟨.inr (by have := HIE.out; omega), HNXT⟩, hHeld⟩
          case measure => have := HSZ.out; simp [intOf]; omega
        · have HRES : Hid (R = none) := Lib.hid (by
            rw [← HREL.out]
            rw [show t.drop i = [] by rw [hie, List.drop_length], labsF_nil, if_neg hok]; rfl)
          by_cases hb1 : m < 1
          · have hm1 : (m : Int) < 1 := by omega
            have hm3 : (i : Int) - (fr : Int) < 1 := by omega
            clear hok hcl hm hmi hie hb1 hbad
            go_wp2_with fail
            go_ret2
            exact HNONE.out HRES.out _ hG
          · have hm1 : ¬ (m : Int) < 1 := by omega
            have hm2 : (63 : Int) < (m : Int) := by omega
            have hm3 : ¬ (i : Int) - (fr : Int) < 1 := by omega
            have hm4 : (63 : Int) < (i : Int) - (fr : Int) := by omega
            clear hok hcl hm hmi hie hb1 hbad
            go_wp2_with fail
            go_ret2
            exact HNONE.out HRES.out _ hG
    · have HIT := Lib.hid hit
      clear hit
      have hBv := HBS.out _ HDONE.out
      have hol : O.length ≤ 200000 := by omega
      have EWL : wrap64 ((O.length : Int) + 1) = (O.length : Int) + 1 := IntWalk.wrap64_in _ (by omega)
      obtain ⟨oa, oc, hov⟩ : ∃ a c, u5 = .slice a O.length c := by
        rcases RO.out.2 with ⟨h1, h2⟩ | ⟨g, cap, cur, h1, _⟩
        · exact ⟨none, 0, by rw [h1, h2]⟩
        · exact ⟨_, _, h1⟩
      subst hov
      have HBV := Lib.hid hBv
      have HZ1 := Lib.hid (show AreBytes [0] from bytes_lit (by decide))
      have HLN1 := Lib.hid (show O.length + ([0] : List Int).length ≤ 140737488355328 by rw [List.length_singleton]; omega)
      clear hBv
      have hrun : (t = [] ∧ (i : Int) ≤ (t.length : Int) ∧ (strOfNums t).toList.isEmpty = true) ∨ ¬ (i : Int) ≤ (t.length : Int) ∨ ((i : Int) ≤ (t.length : Int) ∧ (strOfNums t).toList.isEmpty = true) := by
        rcases HIT.out with h | h
        · subst h; by_cases h2 : (i : Int) ≤ (([] : List Int).length : Int)
          · exact .inl ⟨rfl, h2, by rw [Lib.strOfNums_toList]; rfl⟩
          · exact .inr (.inl h2)
        · exact .inr (.inl (by omega))
      rcases hrun with ⟨-, hi1, hne3⟩ | hi1 | ⟨hi1, hne3⟩
      all_goals
        go_wp2_with (refine wpList_append_b (W := w) rfl (.tmp 80) (.tmp 81) rfl (hG.alloc _) (RO.out.alloc _) ((Row.lit wr wr.heap.size (Nat.le_refl _) #[.int .u8 0] [0] rfl (by unfold maxLen; simp) _ rfl 1 rfl).buf HZ1.out) (by rfl) (by rfl) HLN1.out ?_; intro vz wz RZ gz xz; clear xz)
        go_ret2
        refine ⟨vz, ?_, fun _ o ho => ?_, gz⟩
        · have e1 : decide ((O.length : Int) + 1 ≤ 255) = B := by rw [HBV.out]; congr 1; simp; omega
          exact congrArg (fun b => Ending.returned (.tuple #[vz, .bool b])) e1
        · rw [HDONE.out] at ho
          simp only [Option.some.injEq] at ho
          subst ho
          exact RZ.out.buf (hOo.app HZ1.out)
end Go.Proofs.YtnafdgpkofffaaaGreatDoor
