/-
  Questions for names: plain facts: the labels of a text are read as the text, in small letters; bytes ahead of the name and behind it do not matter.
-/
import Derived.Test.YtnafdgpkofffaaaDoorDnF
set_option maxRecDepth 4000
set_option linter.unusedVariables false
set_option linter.unusedSimpArgs false
namespace Go.Proofs.YtnafdgpkofffaaaDoor
open Go.RowKit

/-- A text in small letters. -/
def lowL (xs : List Int) : List Int := xs.map fun c => (letV c).1
theorem lowL_len (xs : List Int) : (lowL xs).length = xs.length := by simp [lowL]
theorem lowL_app (xs ys : List Int) : lowL (xs ++ ys) = lowL xs ++ lowL ys := by simp [lowL]
theorem lowL_dot (ys : List Int) : lowL (46 :: ys) = 46 :: lowL ys := rfl
theorem labF_all : ∀ (cur rest : List Int), (∀ c ∈ cur, (letV c).2 = true) → labF cur.length (cur ++ rest) = (lowL cur, 0)
  | [], _, _ => rfl
  | c :: r, rest, h => by
    show labF (r.length + 1) (c :: (r ++ rest)) = _
    rw [labF_ok1 (h c (by simp)), labF_all r rest (fun z hz => h z (List.mem_cons_of_mem _ hz))]
    rfl
theorem getD_drop0 (b : List Int) (k : Nat) : b.getD k 0 = (b.drop k).getD 0 0 := by simp only [List.getD_eq_getElem?_getD, List.getElem?_drop, Nat.add_zero]
/-- One label. -/
theorem namAt_label {b : List Int} {p k : Nat} {T cur rest : List Int} (hp : p ≤ k) (hd : b.drop k = (cur.length : Int) :: (cur ++ rest)) (hc : ∀ c ∈ cur, (letV c).2 = true) (hl : lenOk cur = true) (h255 : k - p + cur.length + 2 ≤ 255) :
    namAt b p k T = namAt b p (k + 1 + cur.length) (dotV T ++ lowL cur) ∧ b.drop (k + 1 + cur.length) = rest := by
  have hl' : 1 ≤ cur.length ∧ cur.length ≤ 63 := of_decide_eq_true hl
  have hk : k < b.length := by
    rcases Nat.lt_or_ge k b.length with h | h
    · exact h
    · rw [List.drop_eq_nil_of_le h] at hd; cases hd
  have h0 : b.getD k 0 = (cur.length : Int) := by rw [getD_drop0, hd]; rfl
  have h1 : b.drop (k + 1) = cur ++ rest := by rw [← List.drop_drop, hd]; rfl
  have e : labF (b.getD k 0).toNat (b.drop (k + 1)) = (lowL cur, 0) := by rw [h0, h1, Int.toNat_natCast]; exact labF_all cur rest hc
  refine ⟨?_, ?_⟩
  · have := namAt_next (T := T) (p := p) hk (by omega) (by omega) (by rw [e]) (by omega)
    rw [this, e, h0, Int.toNat_natCast]
  · rw [← List.drop_drop, h1, List.drop_left' rfl]
theorem namAt_labs : ∀ (r cur o rest : List Int) (b : List Int) (p k : Nat) (T : List Int), labsF cur r = some o → (∀ c ∈ cur, (letV c).2 = true) → p ≤ k → b.drop k = o ++ 0 :: rest → k - p + o.length + 1 ≤ 255 →
    namAt b p k T = (dotV T ++ lowL (cur ++ r), ((k + o.length + 1 : Nat) : Int), 0)
  | [], cur, o, rest, b, p, k, T, h, hc, hp, hd, hl => by
    rw [labsF_nil] at h
    split at h
    · rename_i hlen
      simp only [Option.some.injEq] at h
      subst h
      simp only [List.length_cons] at hl
      obtain ⟨e1, e2⟩ := namAt_label (T := T) hp hd hc hlen (by omega)
      have hk : k + 1 + cur.length < b.length := by
        rcases Nat.lt_or_ge (k + 1 + cur.length) b.length with h | h
        · exact h
        · rw [List.drop_eq_nil_of_le h] at e2; cases e2
      rw [e1, namAt_done hk (by rw [getD_drop0, e2]; rfl), List.append_nil]
      simp only [List.length_cons]
      congr 2
      omega
    · cases h
  | c :: r, cur, o, rest, b, p, k, T, h, hc, hp, hd, hl => by
    by_cases e : c = 46
    · subst e
      rw [labsF_dot] at h
      split at h
      · rename_i hlen
        obtain ⟨x, hx, rfl⟩ := Option.map_eq_some_iff.1 h
        have hlen' : 1 ≤ cur.length ∧ cur.length ≤ 63 := of_decide_eq_true hlen
        simp only [List.length_cons, List.length_append] at hl
        rw [List.cons_append, List.append_assoc] at hd
        obtain ⟨e1, e2⟩ := namAt_label (T := T) hp hd hc hlen (by omega)
        rw [e1, namAt_labs r [] x rest b p (k + 1 + cur.length) _ hx (fun z hz => by simp at hz) (by omega) e2 (by omega)]
        have hne : dotV T ++ lowL cur ≠ [] := by
          intro hh
          have := congrArg List.length hh
          rw [List.length_append, lowL_len, List.length_nil] at this
          omega
        rw [show dotV (dotV T ++ lowL cur) = dotV T ++ lowL cur ++ [46] by unfold dotV at hne ⊢; rw [if_neg hne]]
        rw [lowL_app cur, lowL_dot]
        refine Prod.ext ?_ (Prod.ext ?_ rfl)
        · simp only [List.nil_append, List.append_assoc, List.cons_append]
        · simp only [List.length_cons, List.length_append]
          omega
      · cases h
    · rw [labsF_let e] at h
      split at h
      · rename_i hc2
        have := namAt_labs r (cur ++ [c]) o rest b p k T h (fun z hz => by
          rcases List.mem_append.1 hz with hz | hz
          · exact hc z hz
          · rw [List.mem_singleton.1 hz]; exact hc2) hp hd hl
        rw [this, List.append_assoc]
        rfl
      · cases h
theorem namV_labs {xs o b rest : List Int} {p : Nat} (h : lblO xs = some o) (hd : b.drop p = o ++ 0 :: rest) (hl : o.length + 1 ≤ 255) : namV b p = (lowL (trimV xs), ((p + o.length + 1 : Nat) : Int), 0) := by
  show namAt b p p [] = _
  unfold lblO at h
  split at h
  · rename_i ht
    simp only [Option.some.injEq] at h
    subst h
    have hk : p < b.length := by
      rcases Nat.lt_or_ge p b.length with h | h
      · exact h
      · rw [List.drop_eq_nil_of_le h] at hd; cases hd
    rw [namAt_done hk (by rw [getD_drop0, hd]; rfl), ht]
    rfl
  · rw [namAt_labs (trimV xs) [] o rest b p p [] h (fun z hz => by simp at hz) (Nat.le_refl _) hd (by omega)]
    rfl
theorem lblV_spec {xs : List Int} (h : (lblV xs).2 = true) : ∃ o, lblO xs = some o ∧ (lblV xs).1 = o ++ [0] ∧ o.length + 1 ≤ 255 := by
  obtain ⟨o, ho, hv⟩ := lblV_some h
  refine ⟨o, ho, hv, ?_⟩
  have h2 : (lblV xs).2 = decide (o.length + 1 ≤ 255) := by unfold lblV; rw [ho]
  rw [h2] at h
  exact of_decide_eq_true h
theorem askOk_spec {id kind : Int} {xs : List Int} (h : askOk id xs kind = true) : (lblV xs).2 = true ∧ 0 ≤ id ∧ id ≤ 65535 ∧ 0 ≤ kind ∧ kind ≤ 65535 := by
  unfold askOk at h
  simpa using h
/-- What is asked is read. -/
theorem qs_ask {id kind : Int} {xs : List Int} (h : askOk id xs kind = true) (more : List Int) :
    (qsV (askW id xs kind ++ more)).1 = lowL (trimV xs) ∧ (qsV (askW id xs kind ++ more)).2.1 = kind ∧ (qsV (askW id xs kind ++ more)).2.2.2 = 0 := by
  obtain ⟨hl, _, _, hk0, hk1⟩ := askOk_spec h
  obtain ⟨o, ho, hv, h255⟩ := lblV_spec hl
  have hw : askW id xs kind ++ more = (putL id 2 true ++ [1, 0, 0, 1, 0, 0, 0, 0, 0, 0]) ++ (o ++ 0 :: (putL kind 2 true ++ (0 :: 1 :: more))) := by
    unfold askW
    rw [hv]
    simp [List.append_assoc]
  generalize askW id xs kind ++ more = b at *
  have hP : (putL id 2 true ++ [1, 0, 0, 1, 0, 0, 0, 0, 0, 0]).length = 12 := by simp [putB_len]
  have hb : b.length = 12 + (o.length + 1 + (2 + (2 + more.length))) := by rw [hw, List.length_append, hP]; simp [putB_len]; omega
  have hd : b.drop 12 = o ++ 0 :: (putL kind 2 true ++ (0 :: 1 :: more)) := by rw [hw, List.drop_left' hP]
  have hn := namV_labs ho hd h255
  have h46 : getV (cutL b 4 6) true = 1 := by
    rw [hw, cutL_left _ _ _ _ (by rw [hP]; omega), cutL_right _ _ _ _ (by simp [putB_len])]
    simp only [putB_len]
    decide
  have hkk : getV (cutL b (12 + o.length + 1) (12 + o.length + 1 + 2)) true = kind := by
    have : cutL b (12 + o.length + 1) (12 + o.length + 1 + 2) = putL kind 2 true := by
      unfold cutL
      rw [show 12 + o.length + 1 + 2 - (12 + o.length + 1) = 2 by omega, show 12 + o.length + 1 = 12 + (o.length + 1) by omega, ← List.drop_drop, hd]
      rw [show o ++ 0 :: (putL kind 2 true ++ (0 :: 1 :: more)) = (o ++ [0]) ++ (putL kind 2 true ++ (0 :: 1 :: more)) by simp, List.drop_left' (by simp), List.take_left' (by simp [putB_len])]
    rw [this]
    exact getV_putG_eq (by omega) true (by omega) (by have : (2 : Int) ^ (8 * 2) = 65536 := by decide
                                                      omega)
  have hq : qsV b = (lowL (trimV xs), kind, ((12 + o.length + 1 : Nat) : Int) + 4, 0) := by
    unfold qsV
    rw [if_neg (by omega), if_neg (by rw [h46]; simp), hn]
    simp only
    rw [if_neg (by simp), if_neg (by omega), Int.toNat_natCast, hkk]
  rw [hq]
  exact ⟨rfl, rfl, rfl⟩
theorem id_ask {id kind : Int} {xs : List Int} (h : askOk id xs kind = true) : idV (askW id xs kind) = (id, true) ∧ qyV (askW id xs kind) = true ∧ 17 ≤ (askW id xs kind).length := by
  obtain ⟨hl, h0, h1, _, _⟩ := askOk_spec h
  obtain ⟨o, ho, hv, h255⟩ := lblV_spec hl
  have hw : askW id xs kind = putL id 2 true ++ ([1, 0, 0, 1, 0, 0, 0, 0, 0, 0] ++ (o ++ 0 :: (putL kind 2 true ++ [0, 1]))) := by
    unfold askW
    rw [hv]
    simp [List.append_assoc]
  have hb : (askW id xs kind).length = 12 + (o.length + 1 + 4) := by rw [hw]; simp [putB_len]; omega
  refine ⟨?_, ?_, by omega⟩
  · unfold idV
    rw [if_neg (by omega), hw, cutL_left _ _ _ _ (by simp [putB_len]), cutL_whole (by simp [putB_len])]
    rw [getV_putG_eq (by omega) true h0 (by have : (2 : Int) ^ (8 * 2) = 65536 := by decide
                                            omega)]
  · unfold qyV
    rw [decide_eq_true (show 12 ≤ (askW id xs kind).length by omega), hw]
    have : (putL id 2 true ++ ([1, 0, 0, 1, 0, 0, 0, 0, 0, 0] ++ (o ++ 0 :: (putL kind 2 true ++ [0, 1])))).getD 2 0 = 1 := by
      rw [getD_drop0, List.drop_left' (by simp [putB_len])]
      rfl
    rw [this]
    rfl
/-! ### Bytes that agree from the third on -/
theorem namF_same {b b' : List Int} {m : Nat} (hl : b.length = b'.length) (hd : b.drop m = b'.drop m) (p : Nat) : ∀ f k T, m ≤ k → namF b p f k T = namF b' p f k T
  | 0, _, _, _ => rfl
  | f + 1, k, T, h => by
    have e1 : b.getD k 0 = b'.getD k 0 := by
      rw [getD_drop0 b, getD_drop0 b', show k = m + (k - m) by omega, ← List.drop_drop, ← List.drop_drop, hd]
    have e2 : b.drop (k + 1) = b'.drop (k + 1) := by rw [show k + 1 = m + (k + 1 - m) by omega, ← List.drop_drop, ← List.drop_drop, hd]
    unfold namF
    rw [hl, e1, e2]
    split
    · rfl
    · split
      · rfl
      · split
        · rfl
        · split
          · rfl
          · split
            · rfl
            · exact namF_same hl hd p f _ _ (by omega)
theorem qsV_same {b b' : List Int} (hl : b.length = b'.length) (h46 : getV (cutL b 4 6) true = getV (cutL b' 4 6) true) (hd : b.drop 12 = b'.drop 12) : qsV b = qsV b' := by
  have hn : namV b 12 = namV b' 12 := by
    unfold namV
    rw [hl]
    exact namF_same hl hd 12 _ _ _ (Nat.le_refl _)
  unfold qsV
  rw [hl, h46, hn]
  split
  · rfl
  · split
    · rfl
    · split
      · rfl
      · rename_i h3
        split
        · rfl
        · have h := namV_at (b := b') (p := 12) (by omega)
          have e : cutL b (namV b' 12).2.1.toNat ((namV b' 12).2.1.toNat + 2) = cutL b' (namV b' 12).2.1.toNat ((namV b' 12).2.1.toNat + 2) := by
            unfold cutL
            rw [show (namV b' 12).2.1.toNat = 12 + ((namV b' 12).2.1.toNat - 12) by omega, ← List.drop_drop, ← List.drop_drop, hd]
          rw [e]
theorem withV_spec (b : List Int) (id : Int) (h : 12 ≤ b.length) : (withV b id).length = b.length ∧ (withV b id).drop 2 = b.drop 2 ∧ cutL (withV b id) 0 2 = [id / 256 % 256, id % 256] := by
  match b, h with
  | x :: y :: r, h =>
    unfold withV
    rw [if_neg (by omega)]
    exact ⟨rfl, rfl, rfl⟩
theorem getV_two (x y : Int) : getV [x, y] true = y + x * 256 := by
  simp [getV, getTo, placeV]
theorem withV_facts {b : List Int} {id : Int} (h : 12 ≤ b.length) (h0 : 0 ≤ id) (h1 : id ≤ 65535) (hb : AreBytes b) :
    idV (withV b id) = (id, true) ∧ qsV (withV b id) = qsV b ∧ qyV (withV b id) = qyV b ∧ withV (withV b id) (idV b).1 = b ∧ (idV b).2 = true := by
  obtain ⟨e1, e2, e3⟩ := withV_spec b id h
  have e4 : ∀ k, 2 ≤ k → (withV b id).drop k = b.drop k := fun k hk => by rw [show k = 2 + (k - 2) by omega, ← List.drop_drop, ← List.drop_drop, e2]
  refine ⟨?_, qsV_same e1 (by unfold cutL; rw [e4 4 (by omega)]) (e4 12 (by omega)), ?_, ?_, ?_⟩
  · unfold idV
    rw [if_neg (by omega), e3, getV_two]
    congr 1
    omega
  · unfold qyV
    rw [e1, getD_drop0 (withV b id), getD_drop0 b, e2]
  · match b, h, hb with
    | x :: y :: r, h, hb =>
      have hx := hb x (by simp)
      have hy := hb y (by simp)
      have hi : (idV (x :: y :: r)).1 = y + x * 256 := by
        unfold idV
        rw [if_neg (by omega), show cutL (x :: y :: r) 0 2 = [x, y] from rfl, getV_two]
      rw [hi]
      have hw : withV (x :: y :: r) id = (id / 256 % 256) :: (id % 256) :: r := by unfold withV; rw [if_neg (by omega)]; rfl
      rw [hw]
      unfold withV
      rw [if_neg (by simpa using h)]
      show ((y + x * 256) / 256 % 256) :: ((y + x * 256) % 256) :: r = _
      rw [show (y + x * 256) / 256 % 256 = x by omega, show (y + x * 256) % 256 = y by omega]
  · unfold idV
    rw [if_neg (by omega)]
/-! ### Bytes that are cut behind the question -/
theorem labF_take : ∀ (n : Nat) (l : List Int) (j : Nat), n ≤ j → (labF n l).2 = 0 → labF n (l.take j) = labF n l
  | 0, _, _, _, _ => rfl
  | k + 1, [], _, _, h => by simp [labF] at h
  | k + 1, c :: r, j, hj, h => by
    obtain ⟨j', rfl⟩ : ∃ j', j = j' + 1 := ⟨j - 1, by omega⟩
    unfold labF at h
    split at h
    · simp at h
    · rename_i hc
      have hc' : (letV c).2 = true := by simpa using hc
      rw [List.take_succ_cons, labF_ok1 hc', labF_ok1 hc', labF_take k r j' (by omega) h]
theorem namF_le (b : List Int) (p : Nat) : ∀ f k T, (namF b p f k T).2.2 = 0 → (k : Int) < (namF b p f k T).2.1
  | 0, _, _, h => by simp [namF] at h
  | f + 1, k, T, h => by
    unfold namF at h ⊢
    split at h
    · simp at h
    · rename_i c0
      rw [if_neg c0]
      split at h
      · rename_i c1
        rw [if_pos c1]
        simp only
        omega
      · rename_i c1
        rw [if_neg c1]
        split at h
        · simp at h
        · rename_i c2
          rw [if_neg c2]
          split at h
          · rename_i c3
            exact absurd h c3
          · rename_i c3
            rw [if_neg c3]
            split at h
            · simp at h
            · rename_i c4
              rw [if_neg c4]
              have := namF_le b p f _ _ h
              omega
theorem namF_take (b : List Int) (p m : Nat) : ∀ f k T, (namF b p f k T).2.2 = 0 → (namF b p f k T).2.1 ≤ (m : Int) → namF (b.take m) p f k T = namF b p f k T
  | 0, _, _, _, _ => rfl
  | f + 1, k, T, h, hm => by
    by_cases c0 : k < b.length
    · by_cases c1 : b.getD k 0 = 0
      · have e : namF b p (f + 1) k T = (T, (k : Int) + 1, 0) := by unfold namF; rw [if_neg (by omega), if_pos c1]
        rw [e] at hm ⊢
        have hkm : k < m := by simp only at hm; omega
        have e2 : (b.take m).getD k 0 = b.getD k 0 := by simp only [List.getD_eq_getElem?_getD, List.getElem?_take, if_pos hkm]
        unfold namF
        rw [if_neg (by rw [List.length_take]; omega), e2, if_pos c1]
      · have hs : namF b p (f + 1) k T = if 63 < b.getD k 0 then ([], 0, 161) else if (labF (b.getD k 0).toNat (b.drop (k + 1))).2 ≠ 0 then ([], 0, (labF (b.getD k 0).toNat (b.drop (k + 1))).2) else if 255 < (k : Int) + 1 + b.getD k 0 - p + 1 then ([], 0, 161) else namF b p f (k + 1 + (b.getD k 0).toNat) (dotV T ++ (labF (b.getD k 0).toNat (b.drop (k + 1))).1) := by
          conv => lhs; unfold namF
          rw [if_neg (by omega), if_neg c1]
        rw [hs] at h hm ⊢
        by_cases c2 : 63 < b.getD k 0
        · rw [if_pos c2] at h; simp at h
        · rw [if_neg c2] at h hm ⊢
          by_cases c3 : (labF (b.getD k 0).toNat (b.drop (k + 1))).2 = 0
          · rw [if_neg (fun h => h c3)] at h hm ⊢
            by_cases c4 : 255 < (k : Int) + 1 + b.getD k 0 - p + 1
            · rw [if_pos c4] at h; simp at h
            · rw [if_neg c4] at h hm ⊢
              have hle := namF_le b p f (k + 1 + (b.getD k 0).toNat) (dotV T ++ (labF (b.getD k 0).toNat (b.drop (k + 1))).1) h
              have hkm : k + 1 + (b.getD k 0).toNat < m := by omega
              have e2 : (b.take m).getD k 0 = b.getD k 0 := by simp only [List.getD_eq_getElem?_getD, List.getElem?_take, if_pos (show k < m by omega)]
              have e3 : labF (b.getD k 0).toNat ((b.take m).drop (k + 1)) = labF (b.getD k 0).toNat (b.drop (k + 1)) := by
                rw [List.drop_take]
                exact labF_take _ _ _ (by omega) c3
              have ih := namF_take b p m f (k + 1 + (b.getD k 0).toNat) (dotV T ++ (labF (b.getD k 0).toNat (b.drop (k + 1))).1) h hm
              conv => lhs; unfold namF
              rw [if_neg (by rw [List.length_take]; omega), e2, if_neg c1, if_neg c2, e3, if_neg (fun h => h c3), if_neg c4]
              exact ih
          · rw [if_pos c3] at h
            exact absurd h c3
    · have e : namF b p (f + 1) k T = ([], 0, 160) := by unfold namF; rw [if_pos c0]
      rw [e] at h
      simp at h
theorem failOk_spec {b : List Int} (h : failOk b = true) : (qsV b).2.2.2 = 0 ∧ qyV b = true := by
  unfold failOk at h
  simpa using h
theorem qsV_parts {b : List Int} (h : (qsV b).2.2.2 = 0) : 12 ≤ b.length ∧ getV (cutL b 4 6) true = 1 ∧ (namV b 12).2.2 = 0 ∧ (namV b 12).2.1 + 4 ≤ (b.length : Int) ∧
    qsV b = ((namV b 12).1, getV (cutL b (namV b 12).2.1.toNat ((namV b 12).2.1.toNat + 2)) true, (namV b 12).2.1 + 4, 0) := by
  unfold qsV at h ⊢
  split at h
  · simp at h
  · rename_i h1
    rw [if_neg h1]
    split at h
    · simp at h
    · rename_i h2
      rw [if_neg h2]
      split at h
      · rename_i h3; exact absurd h h3
      · rename_i h3
        rw [if_neg h3]
        split at h
        · simp at h
        · rename_i h4
          rw [if_neg h4]
          exact ⟨by omega, by simpa using h2, by simpa using h3, by omega, rfl⟩
theorem qsV_take {b : List Int} (h : (qsV b).2.2.2 = 0) : qsV (b.take (qsV b).2.2.1.toNat) = qsV b := by
  obtain ⟨p1, p2, p3, p4, p5⟩ := qsV_parts h
  have pa := namV_at p3
  generalize hm : (qsV b).2.2.1.toNat = m
  have hm' : (m : Int) = (namV b 12).2.1 + 4 := by rw [← hm, p5]; simp only; omega
  have hlen : (b.take m).length = m := by rw [List.length_take]; omega
  have hn : namV (b.take m) 12 = namV b 12 := by
    have e1 : namV (b.take m) 12 = namF (b.take m) 12 (b.length + 1) 12 [] := by
      unfold namV
      exact namF_more _ _ _ _ _ _ (by omega) (by rw [hlen]; omega)
    rw [e1]
    exact namF_take b 12 m _ _ _ p3 (show (namV b 12).2.1 ≤ (m : Int) by omega)
  have e46 : cutL (b.take m) 4 6 = cutL b 4 6 := cutL_take (by omega)
  have ek : cutL (b.take m) (namV b 12).2.1.toNat ((namV b 12).2.1.toNat + 2) = cutL b (namV b 12).2.1.toNat ((namV b 12).2.1.toNat + 2) := cutL_take (by omega)
  rw [p5]
  unfold qsV
  rw [hlen, hn, e46, ek, if_neg (by omega), if_neg (by rw [p2]; simp), if_neg (by rw [p3]; simp), if_neg (by omega)]
theorem fail_facts {b : List Int} (code : Int) (h : failOk b = true) : qsV (failW b code) = qsV b ∧ idV (failW b code) = idV b ∧ (idV b).2 = true ∧ qyV (failW b code) = false ∧ (failW b code).length ≤ b.length ∧ 16 ≤ (failW b code).length ∧ (failW b code).getD 3 0 = 128 + code % 16 := by
  obtain ⟨h1, h2⟩ := failOk_spec h
  have he := qsV_end h1
  obtain ⟨m, hm⟩ : ∃ m : Nat, (qsV b).2.2.1 = (m : Int) := ⟨(qsV b).2.2.1.toNat, by omega⟩
  have ht := qsV_take h1
  rw [hm, Int.toNat_natCast] at ht
  have hw : failW b code = [b.getD 0 0, b.getD 1 0, 129, 128 + code % 16, 0, 1] ++ List.replicate 6 0 ++ cutL b 12 m := by unfold failW; rw [hm, Int.toNat_natCast]
  have hP : ([b.getD 0 0, b.getD 1 0, 129, 128 + code % 16, 0, 1] ++ List.replicate 6 0).length = 12 := by simp
  have hcl : (cutL b 12 m).length = m - 12 := cutL_length (by omega) (by omega)
  have hlen : (failW b code).length = m := by rw [hw, List.length_append, hP, hcl]; omega
  have h02 : cutL (failW b code) 0 2 = [b.getD 0 0, b.getD 1 0] := by rw [hw]; rfl
  have hb02 : cutL b 0 2 = [b.getD 0 0, b.getD 1 0] := by
    match b, he.1 with
    | x :: y :: r, _ => rfl
  refine ⟨?_, ?_, ?_, ?_, by omega, by omega, ?_⟩
  · rw [← ht]
    refine qsV_same (by rw [hlen, List.length_take]; omega) ?_ ?_
    · obtain ⟨_, p2, _, _, _⟩ := qsV_parts h1
      rw [show cutL (failW b code) 4 6 = [0, 1] by rw [hw]; rfl, cutL_take (by omega), p2]
      decide
    · rw [hw, List.drop_left' hP, List.drop_take]
      rfl
  · unfold idV
    rw [if_neg (by omega), if_neg (by omega), h02, hb02]
  · unfold idV
    rw [if_neg (by omega)]
  · unfold qyV
    rw [show (failW b code).getD 2 0 = 129 by rw [hw]; rfl]
    simp
  · rw [hw]; rfl
end Go.Proofs.YtnafdgpkofffaaaDoor
