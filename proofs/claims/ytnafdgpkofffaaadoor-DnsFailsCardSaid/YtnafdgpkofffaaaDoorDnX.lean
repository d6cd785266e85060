/-
  Names taken apart and put together again: what package dns reckons, as lists; it is what the document reckons.
-/
import Derived.Test.YtnafdgpkofffaaaDoorDnQ
import Derived.Lib.Join
import Derived.Lib.Case
import Derived.Lib.Split
import Derived.Lib.Bytealg
import Derived.Lib.IndexBytes
set_option maxRecDepth 4000
set_option linter.unusedVariables false
set_option linter.unusedSimpArgs false
namespace Go.Proofs.YtnafdgpkofffaaaDoor
open Go.RowKit

/-- Labels with dots between. -/
def joinV : List (List Int) → List Int
  | [] => []
  | x :: r => x ++ (r.map fun y => 46 :: y).flatten
theorem joinV_snoc (L : List (List Int)) (l : List Int) : joinV (L ++ [l]) = (if L = [] then [] else joinV L ++ [46]) ++ l := by
  cases L with
  | nil => simp [joinV]
  | cons x r => simp [joinV]
/-- A text taken apart at its dots; cur: what has been read of the first part. -/
def splitF : List Int → List Int → List (List Int)
  | cur, [] => [cur]
  | cur, c :: r => if c = 46 then cur :: splitF [] r else splitF (cur ++ [c]) r
def isLab (l : List Int) : Bool := lenOk l && l.all fun c => (letV c).2
def putLab (L : List (List Int)) : List Int := (L.map fun l => (l.length : Int) :: l).flatten
def labsOf (t : List Int) : List (List Int) := if t = [] then [] else splitF [] t
theorem putLab_cons (l : List Int) (L : List (List Int)) : putLab (l :: L) = (l.length : Int) :: (l ++ putLab L) := by simp [putLab]
theorem splitF_nil (cur : List Int) : splitF cur [] = [cur] := by rw [splitF]
theorem splitF_dot (cur r : List Int) : splitF cur (46 :: r) = cur :: splitF [] r := by rw [splitF, if_pos rfl]
theorem splitF_let {c : Int} (h : c ≠ 46) (cur r : List Int) : splitF cur (c :: r) = splitF (cur ++ [c]) r := by rw [splitF, if_neg h]
theorem splitF_head : ∀ r cur, ∃ h t, splitF cur r = (cur ++ h) :: t
  | [], cur => ⟨[], [], by rw [splitF_nil, List.append_nil]⟩
  | c :: r, cur => by
    by_cases e : c = 46
    · subst e
      exact ⟨[], _, by rw [splitF_dot, List.append_nil]⟩
    · obtain ⟨h, t, ih⟩ := splitF_head r (cur ++ [c])
      exact ⟨c :: h, t, by rw [splitF_let e, ih, List.append_assoc]; rfl⟩
theorem labsF_split : ∀ r cur, (∀ c ∈ cur, (letV c).2 = true) → labsF cur r = if (splitF cur r).all isLab = true then some (putLab (splitF cur r)) else none
  | [], cur, hc => by
    have ha : cur.all (fun c => (letV c).2) = true := List.all_eq_true.2 hc
    have e : (splitF cur []).all isLab = lenOk cur := by rw [splitF_nil]; simp only [List.all_cons, List.all_nil, Bool.and_true, isLab, ha]
    rw [labsF_nil, e, splitF_nil, putLab_cons]
    simp [putLab]
  | c :: r, cur, hc => by
    have ha : cur.all (fun c => (letV c).2) = true := List.all_eq_true.2 hc
    by_cases e : c = 46
    · subst e
      have e1 : (splitF cur (46 :: r)).all isLab = (lenOk cur && (splitF [] r).all isLab) := by rw [splitF_dot]; simp only [List.all_cons, isLab, ha, Bool.and_true]
      rw [labsF_dot, e1, splitF_dot, putLab_cons, labsF_split r [] (fun z hz => by simp at hz)]
      cases lenOk cur <;> cases (splitF [] r).all isLab <;> simp
    · rw [labsF_let e, splitF_let e]
      by_cases hl : (letV c).2 = true
      · rw [if_pos hl]
        exact labsF_split r (cur ++ [c]) fun z hz => by
          rcases List.mem_append.1 hz with hz | hz
          · exact hc z hz
          · obtain rfl := List.mem_singleton.1 hz; exact hl
      · rw [if_neg hl]
        obtain ⟨h, t, ih⟩ := splitF_head r (cur ++ [c])
        have : ¬ (splitF (cur ++ [c]) r).all isLab = true := fun h' => by
          rw [ih, List.all_cons] at h'
          have h1 := (Bool.and_eq_true_iff.1 h').1
          have h2 := (Bool.and_eq_true_iff.1 h1).2
          exact hl (List.all_eq_true.1 h2 c (by simp))
        rw [if_neg this]
theorem lblO_split (xs : List Int) : lblO xs = if (labsOf (trimV xs)).all isLab = true then some (putLab (labsOf (trimV xs))) else none := by
  unfold lblO labsOf
  by_cases h : trimV xs = []
  · rw [if_pos h, if_pos h]; rfl
  · rw [if_neg h, if_neg h]
    exact labsF_split _ [] fun z hz => by simp at hz
/-- What a name is. -/
def nameOk (t : List Int) : Bool := decide (t.length ≤ 253) && (labsOf t).all isLab
theorem lblV_name (xs : List Int) : (lblV xs).2 = nameOk (trimV xs) := by
  unfold lblV nameOk
  have h := lblO_split xs
  by_cases ha : (labsOf (trimV xs)).all isLab = true
  · rw [if_pos ha] at h
    rw [h, ha, Bool.and_true]
    have hl : (putLab (labsOf (trimV xs))).length + 1 ≤ 255 ↔ (trimV xs).length ≤ 253 := by
      unfold lblO at h
      by_cases h0 : trimV xs = []
      · rw [h0]; simp [labsOf, putLab]
      · rw [if_neg h0] at h
        have := labsF_len _ _ _ h
        simp only [List.length_nil, Nat.zero_add] at this
        omega
    by_cases hx : (trimV xs).length ≤ 253
    · simp only [decide_eq_true hx, decide_eq_true (hl.2 hx)]
    · simp only [decide_eq_false hx, decide_eq_false (fun e => hx (hl.1 e))]
  · rw [if_neg ha] at h
    rw [h, Bool.eq_false_iff.2 ha, Bool.and_false]
theorem lblV_put {xs : List Int} (h : (lblV xs).2 = true) : (lblV xs).1 = putLab (labsOf (trimV xs)) ++ [0] := by
  obtain ⟨o, ho, hv⟩ := lblV_some h
  have h2 := lblO_split xs
  rw [ho] at h2
  by_cases ha : (labsOf (trimV xs)).all isLab = true
  · rw [if_pos ha] at h2
    rw [hv, Option.some.inj h2]
  · rw [if_neg ha] at h2
    simp at h2
theorem trimV_ok {xs : List Int} (h : AreBytes xs) : AreBytes (trimV xs) := by
  unfold trimV
  split
  · exact h.cut _ _
  · exact h
theorem trimV_le (xs : List Int) : (trimV xs).length ≤ xs.length := by
  unfold trimV
  split
  · rw [cutL_length (by omega) (by omega)]; omega
  · omega
theorem splitF_ok : ∀ r cur, AreBytes cur → AreBytes r → ∀ l ∈ splitF cur r, AreBytes l
  | [], cur, hc, _, l, hl => by
    rw [splitF_nil, List.mem_singleton] at hl
    subst hl
    exact hc
  | c :: r, cur, hc, hr, l, hl => by
    have hr' : AreBytes r := fun z hz => hr z (List.mem_cons_of_mem _ hz)
    by_cases e : c = 46
    · subst e
      rw [splitF_dot, List.mem_cons] at hl
      rcases hl with rfl | hl
      · exact hc
      · exact splitF_ok r [] (fun z hz => by simp at hz) hr' l hl
    · rw [splitF_let e] at hl
      exact splitF_ok r (cur ++ [c]) (hc.app fun z hz => by obtain rfl := List.mem_singleton.1 hz; exact hr z (by simp)) hr' l hl
theorem splitF_lens : ∀ r cur, ∀ l ∈ splitF cur r, l.length ≤ cur.length + r.length
  | [], cur, l, hl => by
    rw [splitF_nil, List.mem_singleton] at hl
    subst hl
    omega
  | c :: r, cur, l, hl => by
    by_cases e : c = 46
    · subst e
      rw [splitF_dot, List.mem_cons] at hl
      rcases hl with rfl | hl
      · omega
      · have := splitF_lens r [] l hl
        simp only [List.length_nil, List.length_cons] at this ⊢
        omega
    · rw [splitF_let e] at hl
      have := splitF_lens r (cur ++ [c]) l hl
      simp only [List.length_append, List.length_nil, List.length_cons] at this ⊢
      omega
theorem splitF_many : ∀ r cur, (splitF cur r).length ≤ r.length + 1
  | [], cur => by rw [splitF_nil]; simp
  | c :: r, cur => by
    by_cases e : c = 46
    · subst e
      rw [splitF_dot, List.length_cons]
      have := splitF_many r []
      simp only [List.length_cons]
      omega
    · rw [splitF_let e]
      have := splitF_many r (cur ++ [c])
      simp only [List.length_cons]
      omega
/-- A label that was read. -/
theorem labF_cut : ∀ n r, (labF n r).2 = 0 → (labF n r).1 = lowL (r.take n) ∧ (∀ c ∈ r.take n, (letV c).2 = true)
  | 0, r, _ => ⟨by simp [labF, lowL], fun c hc => by simp at hc⟩
  | _ + 1, [], h => by simp [labF] at h
  | k + 1, c :: r, h => by
    by_cases hl : (letV c).2 = true
    · rw [labF_ok1 hl] at h ⊢
      obtain ⟨e1, e2⟩ := labF_cut k r h
      refine ⟨by simp only [List.take_succ_cons, e1]; rfl, fun z hz => ?_⟩
      rw [List.take_succ_cons, List.mem_cons] at hz
      rcases hz with rfl | hz
      · exact hl
      · exact e2 z hz
    · rw [labF_bad1 (Bool.eq_false_iff.2 hl)] at h
      simp at h
/-! ### Texts as the library has them -/
def byF (n : Int) : UInt8 := UInt8.ofNat n.toNat
theorem strOf_data (xs : List Int) : (strOfNums xs).data.toList = xs.map byF := rfl
theorem strOf_list (xs : List Int) (l : List UInt8) (h : l = xs.map byF) : (⟨l.toArray⟩ : ByteArray) = strOfNums xs := by subst h; rfl
theorem join_strOf (L : List (List Int)) : (⟨(Lib.join ((L.map strOfNums).map (·.data.toList)) [46]).toArray⟩ : ByteArray) = strOfNums (joinV L) := by
  apply strOf_list
  cases L with
  | nil => rfl
  | cons x r =>
    rw [List.map_cons, List.map_cons, Lib.join_cons]
    simp only [joinV, List.map_append, List.map_flatten, List.map_map, Lib.joinTail, strOf_data]
    congr 1
theorem low_byte : ∀ n : Fin 128, Lib.lowerB (UInt8.ofNat n.val) = UInt8.ofNat (if 65 ≤ n.val ∧ n.val ≤ 90 then n.val + 32 else n.val) := by decide
theorem lower_byF {c : Int} (h0 : 0 ≤ c) (h1 : c < 128) : Lib.lowerB (byF c) = byF (letV c).1 := by
  obtain ⟨n, rfl⟩ := Int.eq_ofNat_of_zero_le h0
  have := low_byte ⟨n, by omega⟩
  unfold byF letV
  simp only [Int.toNat_natCast]
  rw [this]
  by_cases h : 65 ≤ n ∧ n ≤ 90
  · rw [if_pos h, if_pos (by omega)]
    congr 1
  · rw [if_neg h, if_neg (by omega)]
    congr 1
theorem lower_strOf {xs : List Int} (h : ∀ c ∈ xs, 0 ≤ c ∧ c < 128) : (⟨(Lib.toLowerA (strOfNums xs).data.toList).toArray⟩ : ByteArray) = strOfNums (lowL xs) := by
  apply strOf_list
  unfold Lib.toLowerA lowL
  rw [strOf_data, List.map_map, List.map_map]
  apply List.map_congr_left
  intro c hc
  exact lower_byF (h c hc).1 (h c hc).2
theorem ascii_strOf {xs : List Int} (h : ∀ c ∈ xs, 0 ≤ c ∧ c < 128) (j : Nat) (b : UInt8) (hb : (strOfNums xs).data.toList[j]? = some b) : b.toNat < 128 := by
  rw [strOf_data, List.getElem?_map] at hb
  cases e : xs[j]? with
  | none => rw [e] at hb; simp at hb
  | some c =>
    rw [e] at hb
    simp only [Option.map_some, Option.some.injEq] at hb
    have := h c (List.mem_of_getElem? e)
    subst hb
    unfold byF
    rw [UInt8.toNat_ofNat_of_lt' (by show _ < 256; omega)]
    omega
theorem trim_strOf {xs : List Int} (h : AreBytes xs) : (⟨(Lib.trimSuffix (strOfNums xs).data.toList [46]).toArray⟩ : ByteArray) = strOfNums (trimV xs) := by
  apply strOf_list
  rw [strOf_data]
  unfold Lib.trimSuffix Lib.hasSuffix trimV
  have hs : (List.isSuffixOf [46] (xs.map byF) = true) ↔ (0 < xs.length ∧ xs.getD (xs.length - 1) 0 = 46) := by
    rw [List.isSuffixOf_iff_suffix]
    constructor
    · rintro ⟨t, ht⟩
      have hl : 0 < xs.length := by
        have := congrArg List.length ht
        simp only [List.length_append, List.length_map, List.length_singleton] at this
        omega
      refine ⟨hl, ?_⟩
      have e : (xs.map byF)[xs.length - 1]? = some 46 := by
        rw [← ht]
        have : t.length = xs.length - 1 := by
          have := congrArg List.length ht
          simp only [List.length_append, List.length_map, List.length_singleton] at this
          omega
        rw [← this, List.getElem?_append_right (Nat.le_refl _), Nat.sub_self]
        rfl
      rw [List.getElem?_map, List.getElem?_eq_getElem (by omega), Option.map_some] at e
      rw [List.getD_eq_getElem?_getD, List.getElem?_eq_getElem (by omega), Option.getD_some]
      have hb := h _ (List.getElem_mem (show xs.length - 1 < xs.length by omega))
      have e2 := congrArg UInt8.toNat (Option.some.inj e)
      unfold byF at e2
      rw [UInt8.toNat_ofNat_of_lt' (by show _ < 256; omega)] at e2
      have : (46 : UInt8).toNat = 46 := rfl
      omega
    · rintro ⟨hl, h46⟩
      refine ⟨(xs.take (xs.length - 1)).map byF, ?_⟩
      have : xs = xs.take (xs.length - 1) ++ [46] := by
        conv => lhs; rw [← List.take_append_drop (xs.length - 1) xs]
        congr 1
        rw [drop_cons (by omega), h46, List.drop_eq_nil_of_le (by omega)]
      conv => rhs; rw [this]
      rw [List.map_append]
      rfl
  by_cases hc : 0 < xs.length ∧ xs.getD (xs.length - 1) 0 = 46
  · rw [if_pos (hs.2 hc), if_pos hc]
    unfold cutL
    simp [List.map_take]
  · rw [if_neg (fun e => hc (hs.1 e)), if_neg hc]
theorem byF_dot {c : Int} (h0 : 0 ≤ c) (h1 : c < 256) : (byF c == 46) = decide (c = 46) := by
  by_cases e : c = 46
  · subst e; rfl
  · rw [decide_eq_false e, beq_eq_false_iff_ne]
    intro e2
    have e3 := congrArg UInt8.toNat e2
    unfold byF at e3
    rw [UInt8.toNat_ofNat_of_lt' (by show _ < 256; omega)] at e3
    have : (46 : UInt8).toNat = 46 := rfl
    omega
/-- Where the first dot is. -/
theorem index_split : ∀ r cur, AreBytes r → (Lib.indexByte (r.map byF) 46 = -1 ∧ splitF cur r = [cur ++ r]) ∨ ∃ i : Nat, i < r.length ∧ Lib.indexByte (r.map byF) 46 = i ∧ splitF cur r = (cur ++ r.take i) :: splitF [] (r.drop (i + 1))
  | [], cur, _ => .inl ⟨rfl, by rw [splitF_nil, List.append_nil]⟩
  | c :: r, cur, h => by
    have hc := h c (by simp)
    have hr : AreBytes r := fun z hz => h z (List.mem_cons_of_mem _ hz)
    have hi : Lib.indexByte ((c :: r).map byF) 46 = if (byF c == 46) = true then 0 else if Lib.indexByte (r.map byF) 46 == -1 then -1 else Lib.indexByte (r.map byF) 46 + 1 := rfl
    by_cases e : c = 46
    · refine .inr ⟨0, by simp, ?_, ?_⟩
      · rw [hi, byF_dot hc.1 hc.2, decide_eq_true e, if_pos rfl]; rfl
      · subst e
        rw [splitF_dot]
        simp
    · rw [splitF_let e]
      rw [hi, byF_dot hc.1 hc.2, decide_eq_false e, if_neg (by simp)]
      rcases index_split r (cur ++ [c]) hr with ⟨h1, h2⟩ | ⟨i, h0, h1, h2⟩
      · refine .inl ⟨by rw [h1]; rfl, by rw [h2, List.append_assoc]; rfl⟩
      · refine .inr ⟨i + 1, by simp; omega, ?_, ?_⟩
        · rw [h1, if_neg (by simp)]; rfl
        · rw [h2, List.append_assoc]
          rfl
theorem count_byF : ∀ r, AreBytes r → ∀ cur, (Lib.countByte (r.map byF) 46) + 1 = (splitF cur r).length
  | [], _, cur => by rw [splitF_nil]; rfl
  | c :: r, h, cur => by
    have hc := h c (by simp)
    have hr : AreBytes r := fun z hz => h z (List.mem_cons_of_mem _ hz)
    have hb := byF_dot hc.1 hc.2
    have e0 : Lib.countByte ((c :: r).map byF) 46 = Lib.countByte (r.map byF) 46 + if (byF c == 46) = true then 1 else 0 := by
      unfold Lib.countByte
      rw [List.map_cons, List.count_cons]
    by_cases e : c = 46
    · rw [e0, hb, decide_eq_true e, if_pos rfl]
      subst e
      rw [splitF_dot, List.length_cons, ← count_byF r hr []]
    · rw [e0, hb, decide_eq_false e, if_neg (by simp), splitF_let e, ← count_byF r hr (cur ++ [c])]
theorem strOf_one : strOfNums [46] = ⟨#[46]⟩ := rfl
theorem indexB_byF (r : List Int) : Lib.indexB (strOfNums r) ⟨#[46]⟩ = Lib.indexByte (r.map byF) 46 := by
  rw [Lib.one _ _ rfl]
  rfl
theorem strOf_extract (r : List Int) (a b : Nat) : (strOfNums r).extract a b = strOfNums (cutL r a b) := strOf_cut r a b
theorem splitB_strOf : ∀ (k : Nat) (r : List Int), AreBytes r → (splitF [] r).length ≤ k + 1 → Lib.splitB ⟨#[46]⟩ 0 k (strOfNums r) = (splitF [] r).map strOfNums
  | 0, r, hr, hk => by
    rcases index_split r [] hr with ⟨h1, h2⟩ | ⟨i, h0, h1, h2⟩
    · rw [h2]; rfl
    · rw [h2, List.length_cons] at hk
      obtain ⟨h, t, e⟩ := splitF_head (r.drop (i + 1)) []
      rw [e] at hk
      simp at hk
  | k + 1, r, hr, hk => by
    rcases index_split r [] hr with ⟨h1, h2⟩ | ⟨i, h0, h1, h2⟩
    · rw [h2, Lib.splitB_miss _ _ _ _ (by rw [indexB_byF]; exact h1)]
      rfl
    · rw [h2, Lib.splitB_hit _ _ _ _ i (by rw [indexB_byF]; exact h1)]
      have e1 : (strOfNums r).extract (i + (⟨#[46]⟩ : ByteArray).size) (strOfNums r).size = strOfNums (r.drop (i + 1)) := by
        rw [strOf_extract, strOf_size]
        congr 1
        unfold cutL
        exact List.take_of_length_le (by rw [List.length_drop]; exact Nat.le_refl _)
      rw [e1, splitB_strOf k _ (fun z hz => hr z (List.mem_of_mem_drop hz)) (by rw [h2, List.length_cons] at hk; omega), List.map_cons, strOf_extract]
      simp [cutL]
theorem countB_byF (r : List Int) (hr : AreBytes r) : Lib.countB (strOfNums r) ⟨#[46]⟩ + 1 = (splitF [] r).length := by
  have key : ∀ (k : Nat) (r : List Int), r.length ≤ k → AreBytes r → Lib.countB (strOfNums r) ⟨#[46]⟩ + 1 = (splitF [] r).length := by
    intro k
    induction k with
    | zero =>
      intro r hk hr
      obtain rfl : r = [] := List.eq_nil_of_length_eq_zero (by omega)
      rw [splitF_nil, Lib.countB_miss _ _ (by rw [indexB_byF]; rfl)]
      rfl
    | succ k ih =>
      intro r hk hr
      rcases index_split r [] hr with ⟨h1, h2⟩ | ⟨i, h0, h1, h2⟩
      · rw [h2, Lib.countB_miss _ _ (by rw [indexB_byF]; exact h1)]
        rfl
      · have e1 : (strOfNums r).extract (i + (⟨#[46]⟩ : ByteArray).size) (strOfNums r).size = strOfNums (r.drop (i + 1)) := by
          rw [strOf_extract, strOf_size]
          congr 1
          unfold cutL
          exact List.take_of_length_le (by rw [List.length_drop]; exact Nat.le_refl _)
        rw [h2, Lib.countB_hit _ _ i (Nat.le_refl _) (by rw [indexB_byF]; exact h1), e1, List.length_cons, ← ih (r.drop (i + 1)) (by rw [List.length_drop]; omega) (fun z hz => hr z (List.mem_of_mem_drop hz))]
        omega
  exact key r.length r (Nat.le_refl _) hr
end Go.Proofs.YtnafdgpkofffaaaDoor
