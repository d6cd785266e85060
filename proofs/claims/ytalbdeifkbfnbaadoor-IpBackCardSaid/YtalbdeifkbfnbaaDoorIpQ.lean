/-
  Plain facts for the laws of layer 17.
-/
import Derived.Test.YtalbdeifkbfnbaaDoorIpH
import Derived.Test.YtalbdeifkbfnbaaDoorIpG2
import Derived.Test.YtalbdeifkbfnbaaDoorSmC
set_option maxRecDepth 4000
set_option linter.unusedVariables false
set_option linter.unusedSimpArgs false
namespace Go.Proofs.YtalbdeifkbfnbaaDoor
open Go.RowKit

theorem same_true {v u : Value} {xs : List Int} {w : World} (hv : Buf w v xs) (hu : Buf w u xs) :
    Calls Tryd.prog 12 #[v, u] w fun e w' => e = .returned (.bool true) ∧ Grew w w' :=
  (sameB_c w hv hu).mono fun _ _ ⟨h1, h2⟩ => ⟨by rw [h1, decide_eq_true rfl], by subst h2; exact Grew.refl _⟩
/-! ### There and back -/
theorem szN_eq (f : PK) : szN f = 20 + f.o.length + f.x.length := by unfold szN hdN; rfl
theorem putP_len (f : PK) : (putP f).length = szN f := by
  unfold putP szN
  rw [List.length_append, patchL_len, headP_len]
theorem headP_list {f : PK} (h : okP f = true) : headP f = (64 + (hdN f : Int) / 4) :: f.tos :: ((szN f : Nat) : Int) / 256 :: ((szN f : Nat) : Int) % 256 :: f.id / 256 :: f.id % 256 :: (f.fl * 8192 + f.off) / 256 :: (f.fl * 8192 + f.off) % 256 :: f.ttl :: f.pr :: 0 :: 0 :: (putL f.si 4 true ++ (putL f.di 4 true ++ f.o)) := by
  have hk := okP_spec h
  have hs := szN_eq f
  unfold headP
  rw [show (hdN f : Int) + (f.x.length : Int) = ((szN f : Nat) : Int) by unfold szN; omega, put_two _ (by omega) (by omega), put_two f.id (by omega) (by omega), put_two (f.fl * 8192 + f.off) (by omega) (by omega)]
  rfl
theorem putTwo_ten (a0 a1 a2 a3 a4 a5 a6 a7 a8 a9 z u x y : Int) (R : List Int) : putTwo (a0 :: a1 :: a2 :: a3 :: a4 :: a5 :: a6 :: a7 :: a8 :: a9 :: z :: u :: R) 10 x y = a0 :: a1 :: a2 :: a3 :: a4 :: a5 :: a6 :: a7 :: a8 :: a9 :: x :: y :: R := rfl
theorem patch_list {f : PK} (h : okP f = true) : ∃ x y : Int, patchV (headP f) 10 = (64 + (hdN f : Int) / 4) :: f.tos :: ((szN f : Nat) : Int) / 256 :: ((szN f : Nat) : Int) % 256 :: f.id / 256 :: f.id % 256 :: (f.fl * 8192 + f.off) / 256 :: (f.fl * 8192 + f.off) % 256 :: f.ttl :: f.pr :: x :: y :: (putL f.si 4 true ++ (putL f.di 4 true ++ f.o)) := by
  have hl := headP_len f
  have hp : isPairV (headP f).length ((10 : Nat) : Int) = true := by
    unfold isPairV
    rw [hl]
    unfold hdN
    exact decide_eq_true (by omega)
  have e := patchV_yes 10 hp
  generalize sumV (putTwo (headP f) 10 0 0) / 256 = x at e
  generalize sumV (putTwo (headP f) 10 0 0) % 256 = y at e
  refine ⟨x, y, e.trans ?_⟩
  rw [headP_list h]
  exact putTwo_ten ..
theorem patch_sum {f : PK} (h : okP f = true) (ho : AreBytes f.o) : sumV (patchV (headP f) 10) = 0 := by
  refine patch_right (headP_ok h ho) 10 ?_
  unfold isPairV
  rw [headP_len]
  unfold hdN
  exact decide_eq_true (by omega)
theorem get_put {f : PK} (h : okP f = true) (hsi : u32I f.si) (hdi : u32I f.di) (ho : AreBytes f.o) (ms : List Int) : getPE (putP f ++ ms) = 0 ∧ getP (putP f ++ ms) = f := by
  have hk := okP_spec h
  have hs := szN_eq f
  have hn : hdN f = 20 + f.o.length := rfl
  have hsum := patch_sum h ho
  have hHl : (patchV (headP f) 10).length = hdN f := by rw [patchL_len, headP_len]
  obtain ⟨cx, cy, hH⟩ := patch_list h
  have hb : putP f ++ ms = patchV (headP f) 10 ++ (f.x ++ ms) := by unfold putP; rw [List.append_assoc]
  have hlen : (putP f ++ ms).length = szN f + ms.length := by rw [List.length_append, putP_len]
  have h0 : (putP f ++ ms).getD 0 0 = 64 + (hdN f : Int) / 4 := by rw [hb, hH]; rfl
  have hhl : hlV (putP f ++ ms) = hdN f := by unfold hlV; rw [h0]; omega
  have c0 : cutL (putP f ++ ms) 0 (hdN f) = patchV (headP f) 10 := by rw [hb, cutL_left _ _ _ _ (by omega), cutL_whole hHl]
  have c2 : cutL (putP f ++ ms) 2 4 = [((szN f : Nat) : Int) / 256, ((szN f : Nat) : Int) % 256] := by rw [hb, hH]; rfl
  have hal : alV (putP f ++ ms) = szN f := by unfold alV; rw [c2, getV_two]; omega
  have he : getPE (putP f ++ ms) = 0 := by
    unfold getPE
    rw [hhl, hal, hlen, c0, h0, hsum]
    rw [if_neg (by omega), if_neg (by omega), if_neg (by omega), if_neg (by omega), if_neg (by omega), if_neg (by omega)]
  refine ⟨he, ?_⟩
  have c4 : cutL (putP f ++ ms) 4 6 = [f.id / 256, f.id % 256] := by rw [hb, hH]; rfl
  have c6 : cutL (putP f ++ ms) 6 8 = [(f.fl * 8192 + f.off) / 256, (f.fl * 8192 + f.off) % 256] := by rw [hb, hH]; rfl
  have hR : ∀ lo hi, 12 ≤ lo → lo ≤ hi → cutL (putP f ++ ms) lo hi = cutL ((putL f.si 4 true ++ (putL f.di 4 true ++ f.o)) ++ (f.x ++ ms)) (lo - 12) (hi - 12) := fun lo hi h12 hle => by
    rw [hb, hH]
    exact cutL_right ([_, _, _, _, _, _, _, _, _, _, _, _] : List Int) _ lo hi h12
  have c12 : cutL (putP f ++ ms) 12 16 = putL f.si 4 true := by
    rw [hR 12 16 (by omega) (by omega), List.append_assoc, cutL_left _ _ _ _ (by rw [putB_len]; omega), cutL_whole (by rw [putB_len])]
  have c16 : cutL (putP f ++ ms) 16 20 = putL f.di 4 true := by
    rw [hR 16 20 (by omega) (by omega), List.append_assoc, cutL_right _ _ _ _ (by rw [putB_len]; omega), putB_len, List.append_assoc, cutL_left _ _ _ _ (by rw [putB_len]; omega), cutL_whole (by rw [putB_len])]
  have c20 : cutL (putP f ++ ms) 20 (hdN f) = f.o := by
    rw [hR 20 _ (by omega) (by omega), List.append_assoc, cutL_right _ _ _ _ (by rw [putB_len]; omega), putB_len, List.append_assoc, cutL_right _ _ _ _ (by rw [putB_len]; omega), putB_len, cutL_left _ _ _ _ (by omega), show 20 - 12 - 4 - 4 = 0 from rfl, cutL_whole (by omega)]
  have cx : cutL (putP f ++ ms) (hdN f) (szN f) = f.x := by
    rw [hb, cutL_right _ _ _ _ (by omega), hHl, Nat.sub_self, cutL_left _ _ _ _ (by unfold szN; omega), cutL_whole (by unfold szN; omega)]
  have g1 : (putP f ++ ms).getD 1 0 = f.tos := by rw [hb, hH]; rfl
  have g8 : (putP f ++ ms).getD 8 0 = f.ttl := by rw [hb, hH]; rfl
  have g9 : (putP f ++ ms).getD 9 0 = f.pr := by rw [hb, hH]; rfl
  unfold u32I at hsi hdi
  unfold getP
  rw [he, if_pos rfl]
  unfold pkOf xfV
  rw [hhl, hal, c4, c6, c12, c16, c20, cx, g1, g8, g9, getV_two, getV_two, getV_putG_eq (by omega) true hsi.1 (by omega), getV_putG_eq (by omega) true hdi.1 (by omega)]
  obtain ⟨⟨k1, k2, k3, k4, k5, k6⟩, _⟩ := hk
  cases f
  simp only [PK.mk.injEq, true_and, and_true]
  simp only at k4 k5 k6
  omega
/-! ### Echoes -/
theorem echo_facts {xs : List Int} (h : echoOk xs = true) (ok : AreBytes xs) : ∃ ys, echoV xs = ys ∧ AreBytes ys ∧ ys.length = xs.length ∧ 8 ≤ xs.length ∧ ys.getD 0 0 = 0 ∧ ys.getD 1 0 = 0 ∧ xs.getD 1 0 = 0 ∧ cutL ys 4 xs.length = cutL xs 4 xs.length ∧ sumV ys = 0 ∧ echoOk ys = false := by
  have h' := h
  unfold echoOk at h'
  simp only [Bool.and_eq_true, decide_eq_true_eq, beq_iff_eq] at h'
  obtain ⟨h8, h0, h1, _⟩ := h'
  have hok : AreBytes (xs.set 0 0) := ok.set 0 (y := 0) (by omega)
  have hl : (xs.set 0 0).length = xs.length := List.length_set ..
  have hp : isPairV (xs.set 0 0).length ((2 : Nat) : Int) = true := by
    unfold isPairV
    rw [hl]
    exact decide_eq_true (by omega)
  have hs0 : ∀ i, (xs.set 0 0).getD i 0 = if i = 0 then 0 else xs.getD i 0 := fun i => by
    rw [List.getD_eq_getElem?_getD, List.getElem?_set]
    by_cases hi : i = 0
    · subst hi; simp; split <;> rfl
    · rw [if_neg (by omega), if_neg hi, List.getD_eq_getElem?_getD]
  have e := patchV_yes 2 hp
  generalize sumV (putTwo (xs.set 0 0) 2 0 0) / 256 = x at e
  generalize sumV (putTwo (xs.set 0 0) 2 0 0) % 256 = y at e
  have hlen : (patchV (xs.set 0 0) 2).length = xs.length := by rw [patchL_len, hl]
  have g : ∀ i, (patchV (xs.set 0 0) 2).getD i 0 = if i = 2 then x else if i = 3 then y else if i = 0 then 0 else xs.getD i 0 := fun i => by
    have e' : patchV (xs.set 0 0) 2 = putTwo (xs.set 0 0) 2 x y := e
    rw [e', putTwo_get x y (by rw [hl]; omega), hs0]
  refine ⟨patchV (xs.set 0 0) 2, ?_, patchL_ok hok 2, hlen, h8, by rw [g]; rfl, ?_, h1, ?_, patch_right hok 2 hp, ?_⟩
  · unfold echoV; rw [if_pos h]
  · rw [g]; simpa using h1
  · apply List.ext_getElem?
    intro i
    by_cases hi : i < xs.length - 4
    · have l1 : i < (cutL (patchV (xs.set 0 0) 2) 4 xs.length).length := by rw [cutL_length (by omega) (by omega)]; exact hi
      have l2 : i < (cutL xs 4 xs.length).length := by rw [cutL_length (by omega) (by omega)]; exact hi
      have a1 := cutL_getD (xs := patchV (xs.set 0 0) 2) hi
      have a2 := cutL_getD (xs := xs) hi
      rw [g, if_neg (by omega), if_neg (by omega), if_neg (by omega), ← a2] at a1
      rw [List.getD_eq_getElem?_getD, List.getD_eq_getElem?_getD, List.getElem?_eq_getElem l1, List.getElem?_eq_getElem l2] at a1
      rw [List.getElem?_eq_getElem l1, List.getElem?_eq_getElem l2]
      exact congrArg some a1
    · rw [List.getElem?_eq_none (by rw [cutL_length (by omega) (by omega)]; omega), List.getElem?_eq_none (by rw [cutL_length (by omega) (by omega)]; omega)]
  · unfold echoOk
    have : ((patchV (xs.set 0 0) 2).getD 0 0 == 8) = false := by rw [g]; rfl
    rw [this]
    simp
theorem echoV_no {xs : List Int} (h : echoOk xs = false) : echoV xs = [] := by unfold echoV; rw [h]; rfl
/-! ### Pieces -/
def accL (fs : List PK) (k : Nat) : List Int := ((fs.take k).map PK.x).flatten
theorem accL_succ {fs : List PK} {k : Nat} {q : PK} (h : fs[k]? = some q) : accL fs (k + 1) = accL fs k ++ q.x := by
  unfold accL
  rw [List.take_add_one, h]
  simp
theorem accL_le (fs : List PK) (k : Nat) : (accL fs k).length ≤ (accL fs fs.length).length := by
  have : accL fs fs.length = accL fs k ++ ((fs.drop k).map PK.x).flatten := by
    unfold accL
    rw [List.take_length, ← List.flatten_append, ← List.map_append, List.take_append_drop]
  rw [this, List.length_append]; omega
structure Good (f : PK) (mtu : Int) (fs : List PK) : Prop where
  pos : 0 < fs.length
  each : ∀ k q, fs[k]? = some q → okP q = true ∧ ((szN q : Nat) : Int) ≤ mtu ∧ q.off = f.off + ((accL fs k).length : Int) / 8 ∧ (accL fs k).length % 8 = 0 ∧ (k + 1 < fs.length → q.fl % 2 = 1) ∧ (k + 1 = fs.length → q.fl = f.fl) ∧ q.id = f.id
  whole : accL fs fs.length = f.x
theorem good_one {f : PK} {mtu : Int} (h : okP f = true) (hz : (szN f : Int) ≤ mtu) : Good f mtu [f] := by
  refine ⟨by simp, fun k q hk => ?_, by simp [accL]⟩
  match k, hk with
  | 0, hk =>
    obtain rfl : f = q := by simpa using hk
    exact ⟨h, hz, by simp [accL], by simp [accL], fun h => by simp at h, fun _ => rfl, rfl⟩
  | k + 1, hk => simp at hk
theorem piecesTo_get (f : PK) (m K k : Nat) (h : k < K) : (piecesTo f m K)[k]? = some (pieceP f m k) := by simp [piecesTo, h]
theorem accL_pieces {f : PK} {m K : Nat} (hK : ∀ k, k < K → k * m < f.x.length) : ∀ k, k ≤ K → accL (piecesTo f m K) k = cutL f.x 0 (min (k * m) f.x.length)
  | 0, _ => by simp [accL, cutL]
  | k + 1, h => by
    have hk := hK k (by omega)
    have hm : (k + 1) * m = k * m + m := Nat.succ_mul k m
    rw [accL_succ (piecesTo_get f m K k (by omega)), accL_pieces hK k (by omega), Nat.min_eq_left (by omega)]
    exact cutL_join f.x (by omega) (by unfold endP; omega)
theorem moreV_odd {x : Int} (_h : 0 ≤ x) : moreV x % 2 = 1 := by unfold moreV; split <;> omega
theorem moreV_le {x : Int} (h0 : 0 ≤ x) (h1 : x ≤ 7) : 0 ≤ moreV x ∧ moreV x ≤ 7 := by unfold moreV; split <;> omega
theorem good_pieces {f : PK} {mtu : Int} {m : Nat} (h : okP f = true) (hm : 0 < m) (h8 : m % 8 = 0) (hf : (hdN f : Int) + (m : Int) ≤ mtu) (ho : f.off + ((f.x.length : Int) + 7) / 8 ≤ 8191) (hx : 0 < f.x.length) : Good f mtu (piecesTo f m (nP f m)) := by
  have hK : ∀ k, k < nP f m → k * m < f.x.length := fun k hk => (nP_lt hm k).1 hk
  have hk := okP_spec h
  have hlen := piecesTo_len f m (nP f m)
  have hend : f.x.length ≤ nP f m * m := by
    have := nP_lt (f := f) hm (nP f m)
    omega
  refine ⟨by rw [hlen]; exact (nP_lt hm 0).2 (by omega), fun k q hq => ?_, ?_⟩
  · have hkl : k < nP f m := by have := (List.getElem?_eq_some_iff.1 hq).1; omega
    rw [piecesTo_get f m _ k hkl] at hq
    obtain rfl : pieceP f m k = q := Option.some.inj hq
    have hkm := hK k hkl
    have hs : (k + 1) * m = k * m + m := Nat.succ_mul k m
    have hd8 : k * m % 8 = 0 := by rw [Nat.mul_mod, h8]; simp
    have hacc : (accL (piecesTo f m (nP f m)) k).length = k * m := by
      rw [accL_pieces hK k (by omega), cutL_length (by omega) (by omega)]; omega
    have hxl : (pieceP f m k).x.length = endP f m k - k * m := by
      show (cutL f.x (k * m) (endP f m k)).length = _
      rw [cutL_length (by unfold endP; omega) (by unfold endP; omega)]
    have hel : endP f m k - k * m ≤ m ∧ endP f m k ≤ f.x.length := by unfold endP; omega
    have hfl : 0 ≤ (pieceP f m k).fl ∧ (pieceP f m k).fl ≤ 7 := by
      show 0 ≤ (if endP f m k < f.x.length then moreV f.fl else f.fl) ∧ (if endP f m k < f.x.length then moreV f.fl else f.fl) ≤ 7
      split
      · exact moreV_le (by omega) (by omega)
      · omega
    have hoff : (pieceP f m k).off = f.off + ((k * m : Nat) : Int) / 8 := rfl
    refine ⟨?_, ?_, by rw [hacc]; exact hoff, by rw [hacc]; exact hd8, fun hl => ?_, fun hl => ?_, rfl⟩
    · unfold okP inV
      have e1 : (pieceP f m k).tos = f.tos := rfl
      have e2 : (pieceP f m k).ttl = f.ttl := rfl
      have e3 : (pieceP f m k).pr = f.pr := rfl
      have e4 : (pieceP f m k).id = f.id := rfl
      have e5 : (pieceP f m k).o = f.o := rfl
      rw [e1, e2, e3, e4, e5, hoff, hxl]
      simp only [Bool.and_eq_true, decide_eq_true_eq]
      omega
    · have e5 : (pieceP f m k).o = f.o := rfl
      have hz : szN (pieceP f m k) = hdN f + (pieceP f m k).x.length := by unfold szN hdN; rw [e5]
      rw [hz, hxl]
      omega
    · have h2 := (nP_lt (f := f) hm (k + 1)).1 (by omega)
      show (if endP f m k < f.x.length then moreV f.fl else f.fl) % 2 = 1
      rw [if_pos (by unfold endP; omega)]
      exact moreV_odd (by omega)
    · have e : nP f m = k + 1 := by omega
      rw [e] at hend
      show (if endP f m k < f.x.length then moreV f.fl else f.fl) = f.fl
      rw [if_neg (by unfold endP; omega)]
  · rw [hlen, accL_pieces hK _ (Nat.le_refl _), Nat.min_eq_right hend, cutL_all]
theorem good_cut {f : PK} {mtu : Int} (h : cutE f mtu = 0) : Good f mtu (cutP f mtu) := by
  have h' := h
  unfold cutE at h'
  unfold cutP
  rw [h, if_neg (by omega)]
  cases hok : okP f
  · rw [hok, if_pos rfl] at h'; omega
  · have hk := okP_spec hok
    rw [hok, if_neg (by simp)] at h'
    by_cases hz : (szN f : Int) ≤ mtu
    · rw [if_pos hz]; exact good_one hok hz
    · rw [if_neg hz] at h' ⊢
      by_cases hf : f.fl / 2 % 2 = 1
      · rw [if_pos hf] at h'; omega
      · rw [if_neg hf] at h'
        by_cases hd : (hdN f : Int) + 8 > mtu
        · rw [if_pos hd] at h'; omega
        · rw [if_neg hd] at h'
          by_cases hu : f.off + ((f.x.length : Int) + 7) / 8 > 8191
          · rw [if_pos hu] at h'; omega
          · have hs : szN f = hdN f + f.x.length := rfl
            have hc : cutM f mtu = ((mtu - (hdN f : Int)) / 8 * 8).toNat := rfl
            exact good_pieces hok (by omega) (by omega) (by omega) (by omega) (by omega)
theorem cutE_no {f : PK} {mtu : Int} (h : cutE f mtu ≠ 0) : cutP f mtu = [] := by unfold cutP; rw [if_pos h]
end Go.Proofs.YtalbdeifkbfnbaaDoor
