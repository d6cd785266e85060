/-
  Package dns: names and their labels.
-/
import Derived.Test.YtnafdgpkofffaaaDoorDnE
import Derived.Test.YtnafdgpkofffaaaDoorStrA
import Derived.Laws.IdiomStrings
set_option maxRecDepth 4000
set_option linter.unusedVariables false
set_option linter.unusedSimpArgs false
namespace Go.Proofs.YtnafdgpkofffaaaDoor
open Go.RowKit

theorem conv_str {xs : List Int} (ok : AreBytes xs) (w : World) : ∃ c w', (convert 9 22 (.string (strOfNums xs))).run Tryd.prog w = .ok (.slice (some ⟨w.heap.size, 0, none⟩) xs.length c) w' ∧ Grew w w' ∧ ∀ j, j < xs.length → w'.cell? ⟨w.heap.size, j, none⟩ = some (.int .u8 (xs.getD j 0)) := by
  have hr := run_bytes_of_string (P := Tryd.prog) w 9 22 5 (strOfNums xs) Tryd.underlying9 Tryd.underlying22 Tryd.underlying5
  have hs := strOf_size xs
  generalize hc : grownCap w (strOfNums xs).size 0 5 = C at hr
  rw [hs] at hr
  refine ⟨C, _, hr, ((Grew.refl w).drew1).alloc _, fun j hj => ?_⟩
  have e := heap_alloc_new w.drew (.cells (bytesRow (strOfNums xs) C) 5 ((bytesRow (strOfNums xs) C).size, (bytesRow (strOfNums xs) C).size + 1))
  have hw : w.drew.heap.size = w.heap.size := rfl
  rw [hw] at e
  unfold World.cell?
  rw [e]
  have hj' : j < (strOfNums xs).data.size := by show j < (strOfNums xs).size; omega
  have := bytesRow_at (strOfNums xs) C j hj'
  rw [← strOf_get ok (k := j) (by omega)]
  exact this
theorem rdl_str (w : World) (av : Nat → Prop) : ∀ L : List (List Int), RdL w av (datS L).flatten (L.map fun l => Value.string (strOfNums l))
  | [] => RdL.nil _ _
  | _ :: r => RdL.cons (.str _) (rdl_str w av r)
theorem datS_wid (L : List (List Int)) : ∀ e ∈ datS L, e.length = 1 := fun e he => by
  obtain ⟨l, _, rfl⟩ := List.mem_map.1 he
  rfl
/-- Texts, cell by cell. -/
theorem datS_cells {L : List (List Int)} {a : Option Addr} {n c : Nat} {w : World} (h : RdC w noAv (.row 1 (datS L)) (.slice a n c)) : n = L.length ∧ (L ≠ [] → ∃ b off : Nat, a = some ⟨b, off, none⟩ ∧ ∀ w', Grew w w' → ∀ i, i < L.length → w'.cell? ⟨b, off + i, none⟩ = some (.string (strOfNums (L.getD i [])))) := by
  obtain ⟨h1, h2⟩ := h.elem
  rw [datS_len] at h1
  refine ⟨h1, fun hne => ?_⟩
  obtain ⟨b, off, rfl, hb, _, hx⟩ := h2 (by unfold datS; simpa using hne)
  refine ⟨b, off, rfl, fun w' g i hi => ?_⟩
  obtain ⟨us, hu, _, hc, hr⟩ := hx i [.str (strOfNums (L.getD i []))] (by unfold datS; rw [List.getElem?_map, List.getElem?_eq_getElem hi, List.getD_eq_getElem?_getD, List.getElem?_eq_getElem hi]; rfl)
  match us, hu with
  | [u], _ =>
    have h9 := hr 0 _ u rfl rfl
    have hc0 := hc 0 u rfl
    rw [Nat.mul_one, Nat.add_zero] at hc0
    rw [(gcell g).1 _ _ hb, hc0]
    cases h9
    rfl
set_option maxHeartbeats 2000000 in
theorem isLabel_in {xs : List Int} (hxo : AreBytes xs) (hl : xs.length ≤ 140737488355328) (w : World) (B : Bool) (hB : B = isLab xs) :
    Calls Tryd.prog 29 #[.string (strOfNums xs)] w fun e w' => e = .returned (.bool B) ∧ Grew w w' := by
  have HBF : Hid (∀ k, k < xs.length → (letV (xs.getD k 0)).2 = false → B = false) := Lib.hid (fun k hk h => by
    have hall : (xs.all fun c => (letV c).2) = false := by
      rw [Bool.eq_false_iff]
      intro ha
      have := List.all_eq_true.1 ha (xs.getD k 0) (by rw [List.getD_eq_getElem?_getD, List.getElem?_eq_getElem hk]; exact List.getElem_mem hk)
      rw [h] at this
      cases this
    rw [hB]
    unfold isLab
    rw [hall, Bool.and_false])
  have HBT : Hid ((∀ c ∈ xs, (letV c).2 = true) → B = decide (1 ≤ xs.length ∧ xs.length ≤ 63)) := Lib.hid (fun h => by
    rw [hB]
    unfold isLab lenOk
    rw [List.all_eq_true.2 h, Bool.and_true])
  obtain ⟨cp, w1, hcv, g1, hcell⟩ := conv_str hxo w
  have HCELL := Lib.hid hcell
  have HOK := Lib.hid hxo
  obtain ⟨n, hn⟩ : ∃ n, n = xs.length := ⟨_, rfl⟩
  have HN := Lib.hid hn
  have HSZ := Lib.hid (show (strOfNums xs).size = n by rw [strOf_size, hn])
  have HEM := Lib.hid (show (strOfNums xs).toList.isEmpty = decide (n = 0) by
    rw [Lib.toList_data, strOf_data, hn]
    cases xs <;> simp)
  rw [← hn] at hl hcv
  clear hB hcell hxo hn
  generalize strOfNums xs = S at *
  go_enter Tryd.func29, Tryd.ntmps29
  go_wp2_with fail
  generalize hQ : w.heap.size = Q at *
  go_loopw [8] (fun i wr => ∃ k : Nat, i = .int .i64 k ∧ k ≤ n ∧ Hid (∀ c ∈ xs.take k, (letV c).2 = true) ∧ wr = w1) (fun i _ => n - (intOf i).toNat)
  case atStart => exact ⟨0, rfl, Nat.zero_le _, Lib.hid (fun c hc => by simp at hc), rfl⟩
  case round =>
    obtain ⟨k, rfl, hk, HT, rfl⟩ := hrel
    by_cases hin : k < n
    · have hin' : (k : Int) < (n : Int) := by omega
      have hkx : k < xs.length := by rw [← HN.out]; exact hin
      have x1 := HCELL.out k hkx
      have hcz := HOK.out.getD k
      have hlt9 := fun w' => isLetter_c (xs.getD k 0) hcz w'
      cases hlv : (letV (xs.getD k 0)).2
      · have HRES := Lib.hid (HBF.out k hkx hlv)
        rw [hlv] at hlt9
        have HLT := Lib.hid hlt9
        clear hlt9 hlv hkx
        generalize xs.getD k 0 = cc at *
        go_wp2_with fail
        refine (HLT.out _).mono ?_
        rintro e wx ⟨rfl, hx⟩
        obtain rfl := hx.symm
        go_wp2_with fail
        go_ret
        rw [HRES.out]
        exact ⟨rfl, g1⟩
      · have HNX : Hid (∀ c ∈ xs.take (k + 1), (letV c).2 = true) := Lib.hid (fun c hc => by
          rw [List.take_add_one, List.getElem?_eq_getElem hkx, List.mem_append] at hc
          rcases hc with hc | hc
          · exact HT.out c hc
          · rw [List.getD_eq_getElem?_getD, List.getElem?_eq_getElem hkx] at hlv
            simp only [Option.toList, List.mem_singleton] at hc
            rw [hc]; exact hlv)
        rw [hlv] at hlt9
        have HLT := Lib.hid hlt9
        clear hlt9 hlv hkx
        generalize xs.getD k 0 = cc at *
        go_wp2_with fail
        refine (HLT.out _).mono ?_
        rintro e wx ⟨rfl, hx⟩
        obtain rfl := hx.symm
        go_wp2_with fail
        go_round
        case rel => exact ⟨k + 1, by go_num, by omega, HNX, by first | rfl | trivial⟩
        case measure => simp [intOf]; omega
    · have hkn : k = n := by omega
      have HALL := Lib.hid (HBT.out (fun c hc => HT.out c (by rw [hkn, HN.out, List.take_length]; exact hc)))
      rw [← HN.out] at HALL
      have hin' : ¬ (k : Int) < (n : Int) := by omega
      by_cases h0 : n = 0
      · have hem : S.toList.isEmpty = true := by rw [HEM.out, h0]; rfl
        have HRES := Lib.hid (show B = false by rw [HALL.out, h0]; rfl)
        clear h0 hkn
        go_wp2_with fail
        go_ret
        rw [HRES.out]
        exact ⟨rfl, g1⟩
      · have hem : S.toList.isEmpty = false := by rw [HEM.out]; exact decide_eq_false h0
        have hsz := HSZ.out
        by_cases h63 : n ≤ 63
        · have h63' : (n : Int) ≤ 63 := by omega
          have HRES := Lib.hid (show B = true by rw [HALL.out]; exact decide_eq_true ⟨by omega, h63⟩)
          clear h0 hkn h63
          go_wp2_with fail
          go_ret
          rw [HRES.out]
          exact ⟨rfl, g1⟩
        · have h63' : ¬ (n : Int) ≤ 63 := by omega
          have HRES := Lib.hid (show B = false by rw [HALL.out]; exact decide_eq_false (fun h => h63 h.2))
          clear h0 hkn h63
          go_wp2_with fail
          go_ret
          rw [HRES.out]
          exact ⟨rfl, g1⟩
theorem labelsOf_c {t : List Int} (hto : AreBytes t) (hl : t.length ≤ 70000) (w : World) :
    Calls Tryd.prog 21 #[.string (strOfNums t)] w fun e w' => ∃ v, e = .returned v ∧ RdC w' noAv (.row 1 (datS (labsOf t))) v ∧ Grew w w' := by
  by_cases h0 : t = []
  · subst h0
    rw [show strOfNums [] = ⟨#[]⟩ from rfl, show labsOf [] = [] from rfl]
    go_enter Tryd.func21, Tryd.ntmps21
    go_wp2_with fail
    go_ret
    exact ⟨_, rfl, .nil _ _ _, Grew.refl _⟩
  · have hle : labsOf t = splitF [] t := by unfold labsOf; rw [if_neg h0]
    rw [hle]
    have hem : (strOfNums t).toList.isEmpty = false := by
      rw [Lib.toList_data, strOf_data]
      cases t with
      | nil => exact absurd rfl h0
      | cons _ _ => rfl
    have HS := Lib.hid (split_c hto hl w)
    have hm := splitF_many t []
    have hp : splitF [] t ≠ [] := by obtain ⟨h, r, e⟩ := splitF_head t []; rw [e]; simp
    have HM := Lib.hid (show (datS (splitF [] t)).length ≤ maxLen by rw [datS_len]; unfold maxLen; omega)
    clear hle h0 hto hl hm hp
    generalize splitF [] t = LL at *
    generalize strOfNums t = S at *
    go_enter Tryd.func21, Tryd.ntmps21
    go_wp2_with fail
    refine HS.out.mono ?_
    rintro e w1 ⟨rfl, h1⟩
    have hB : Blk w1 w.heap.size (LL.map fun l => Value.string (strOfNums l)).toArray 9 := by rw [h1]; exact Blk.new _ _ _ _ rfl
    have g1 : Grew w w1 := by rw [h1]; exact (Grew.refl _).alloc _
    clear h1
    go_wp2_with fail
    go_ret
    have ho := OwnD.lit (av := noAv) (base := w.heap.size) hB (Nat.le_refl _) (by rw [List.toList_toArray]; exact rdl_str _ _ LL) (datS_wid LL) HM.out
    rw [datS_len] at ho
    exact ⟨_, rfl, ho.read (fun g hg => by simp [noAv]), g1⟩
set_option maxHeartbeats 2000000 in
theorem isName_in {t : List Int} (hto : AreBytes t) (hl : t.length ≤ 70000) (w : World) (B : Bool) (hB : B = nameOk t) :
    Calls Tryd.prog 17 #[.string (strOfNums t)] w fun e w' => e = .returned (.bool B) ∧ Grew w w' := by
  have hsz : (strOfNums t).size = t.length := strOf_size t
  by_cases h253 : 253 < t.length
  · have HRES := Lib.hid (show B = false by rw [hB]; unfold nameOk; rw [decide_eq_false (by omega)]; rfl)
    have h253' : (253 : Int) < (t.length : Int) := by omega
    clear hB hto
    generalize t.length = n at *
    generalize strOfNums t = S at *
    go_enter Tryd.func17, Tryd.ntmps17
    go_wp2_with fail
    go_ret
    rw [HRES.out]
    exact ⟨rfl, Grew.refl _⟩
  · have HLO := Lib.hid (labelsOf_c hto hl w)
    have h253' : ¬ (253 : Int) < (t.length : Int) := by omega
    have hLok : ∀ l ∈ labsOf t, AreBytes l ∧ l.length ≤ 70000 := fun l hl9 => by
      unfold labsOf at hl9
      split at hl9
      · simp at hl9
      · exact ⟨splitF_ok t [] (fun z hz => by simp at hz) hto l hl9, by have := splitF_lens t [] l hl9; simp only [List.length_nil] at this; omega⟩
    have hmany : (labsOf t).length ≤ 70001 := by
      unfold labsOf
      split
      · simp
      · have := splitF_many t []; omega
    have HLOK := Lib.hid hLok
    have hB2 : B = (labsOf t).all isLab := by rw [hB]; unfold nameOk; rw [decide_eq_true (by omega), Bool.true_and]
    clear hLok h253 hB hto hl
    generalize t.length = n at *
    generalize strOfNums t = S at *
    generalize labsOf t = LL at *
    have HBF : Hid (∀ k, k < LL.length → isLab (LL.getD k []) = false → B = false) := Lib.hid (fun k hk h => by
      rw [hB2, Bool.eq_false_iff]
      intro ha
      have := List.all_eq_true.1 ha (LL.getD k []) (by rw [List.getD_eq_getElem?_getD, List.getElem?_eq_getElem hk]; exact List.getElem_mem hk)
      rw [h] at this
      cases this)
    have HBT : Hid ((∀ l ∈ LL, isLab l = true) → B = true) := Lib.hid (fun h => by rw [hB2]; exact List.all_eq_true.2 h)
    obtain ⟨m, hm⟩ : ∃ m, m = LL.length := ⟨_, rfl⟩
    have HM := Lib.hid hm
    rw [← hm] at hmany
    clear hB2 hm
    go_enter Tryd.func17, Tryd.ntmps17
    go_wp2_with fail
    refine HLO.out.mono ?_
    rintro e w1 ⟨v, rfl, hrd, g1⟩
    obtain ⟨a, c, rfl, _⟩ := hrd.shape
    obtain ⟨_, hcl⟩ := datS_cells hrd
    rw [datS_len, ← HM.out]
    have HCL := Lib.hid hcl
    clear hrd hcl hsz h253'
    go_wp2_with fail
    go_loopw [11] (fun i wr => ∃ k : Nat, i = .int .i64 k ∧ k ≤ m ∧ Hid (∀ l ∈ LL.take k, isLab l = true) ∧ Grew w1 wr) (fun i _ => m - (intOf i).toNat)
    case atStart => exact ⟨0, rfl, Nat.zero_le _, Lib.hid (fun c hc => by simp at hc), Grew.refl _⟩
    case round =>
      obtain ⟨k, rfl, hk, HT, gr⟩ := hrel
      by_cases hin : k < m
      · have hin' : (k : Int) < (m : Int) := by omega
        have hkx : k < LL.length := by rw [← HM.out]; exact hin
        obtain ⟨bk, off, rfl, hat⟩ := HCL.out (by rintro rfl; simp at hkx)
        have x1 := hat wr gr k hkx
        have hmem : LL.getD k [] ∈ LL := by rw [List.getD_eq_getElem?_getD, List.getElem?_eq_getElem hkx]; exact List.getElem_mem hkx
        have hlok := HLOK.out _ hmem
        have hil := isLabel_in hlok.1 (by omega) wr _ rfl
        clear hat hmem hlok
        cases hlv : isLab (LL.getD k [])
        · have HRES := Lib.hid (HBF.out k hkx hlv)
          rw [hlv] at hil
          have HLT := Lib.hid hil
          clear hil hlv hkx
          generalize strOfNums (LL.getD k []) = S1 at *
          go_wp2_with fail
          refine HLT.out.mono ?_
          rintro e wx ⟨rfl, gx⟩
          go_wp2_with fail
          go_ret
          rw [HRES.out]
          exact ⟨rfl, (g1.trans gr).trans gx⟩
        · have HNX : Hid (∀ l ∈ LL.take (k + 1), isLab l = true) := Lib.hid (fun l hl => by
            rw [List.take_add_one, List.getElem?_eq_getElem hkx, List.mem_append] at hl
            rcases hl with hl | hl
            · exact HT.out l hl
            · rw [List.getD_eq_getElem?_getD, List.getElem?_eq_getElem hkx] at hlv
              simp only [Option.toList, List.mem_singleton] at hl
              rw [hl]; exact hlv)
          rw [hlv] at hil
          have HLT := Lib.hid hil
          clear hil hlv hkx
          generalize strOfNums (LL.getD k []) = S1 at *
          go_wp2_with fail
          refine HLT.out.mono ?_
          rintro e wx ⟨rfl, gx⟩
          go_wp2_with fail
          go_round
          case rel => exact ⟨k + 1, by go_num, by omega, HNX, gr.trans gx⟩
          case measure => simp [intOf]; omega
      · have hin' : ¬ (k : Int) < (m : Int) := by omega
        have HRES := Lib.hid (HBT.out (fun l hl => HT.out l (by rw [show k = LL.length by rw [← HM.out]; omega, List.take_length]; exact hl)))
        go_wp2_with fail
        go_ret
        rw [HRES.out]
        exact ⟨rfl, g1.trans gr⟩
end Go.Proofs.YtnafdgpkofffaaaDoor
