/-
  Package sum: Pseudo, and the document's own; plain facts of sums; what must come at any rate.
-/
import Derived.Test.YtiaejlbkdgcfiaaSmB
import Derived.Test.YtiaejlbkdgcfiaaCat
set_option maxRecDepth 4000
set_option linter.unusedVariables false
set_option linter.unusedSimpArgs false
namespace Go.Proofs.Ytiaejlbkdgcfiaa
open Go.RowKit

/-- What Pseudo answers. -/
def pseudoV (src dst proto n : Int) : List Int := putL src 4 true ++ putL dst 4 true ++ [0, proto % 256] ++ putL (n % 18446744073709551616) 2 true
theorem AreBytes.append {xs ys : List Int} (h1 : AreBytes xs) (h2 : AreBytes ys) : AreBytes (xs ++ ys) := fun x hx => by
  rcases List.mem_append.1 hx with hx | hx
  · exact h1 x hx
  · exact h2 x hx
theorem two_ok (x y : Int) (hx : 0 ≤ x ∧ x < 256) (hy : 0 ≤ y ∧ y < 256) : AreBytes [x, y] := fun z hz => by
  simp only [List.mem_cons, List.not_mem_nil, or_false] at hz
  rcases hz with rfl | rfl <;> assumption
theorem pseudoV_ok (src dst proto n : Int) : AreBytes (pseudoV src dst proto n) :=
  (((putB_ok _ _ _).append (putB_ok _ _ _)).append (two_ok _ _ (by omega) (by omega))).append (putB_ok _ _ _)
theorem pseudoV_len (src dst proto n : Int) : (pseudoV src dst proto n).length = 12 := by
  unfold pseudoV
  simp only [List.length_append, putB_len]
  rfl
theorem pseudo_flat (src dst proto n : Int) : [putL src 4 true, putL dst 4 true, [0, proto % 256], putL (n % 18446744073709551616) 2 true].flatten = pseudoV src dst proto n := by
  simp [pseudoV]

set_option maxHeartbeats 1000000 in
theorem pseudo_c (src dst proto n : Int) (hs : 0 ≤ src ∧ src < 4294967296) (hd : 0 ≤ dst ∧ dst < 4294967296) (hp : -9223372036854775808 ≤ proto ∧ proto ≤ 9223372036854775807) (hn : -9223372036854775808 ≤ n ∧ n ≤ 9223372036854775807) (w : World) :
    Calls Try.prog 45 #[.int .u32 src, .int .u32 dst, .int .i64 proto, .int .i64 n] w fun e w' => ∃ u, e = .returned u ∧ Row w' w.heap.size u (pseudoV src dst proto n) ∧ Buf w' u (pseudoV src dst proto n) ∧ Grew w w' := by
  go_enter Try.func45, Try.ntmps45
  go_wp2_with fail
  refine (putB_c src _ 4 true (by rfl) (by omega) (by omega) (by omega) _).mono ?_
  rintro e w1 ⟨u1, rfl, r1, b1, g1⟩
  obtain ⟨p1, c1, rfl, _, _⟩ := b1.shape
  have B1 := Lib.hid b1
  clear b1 r1
  go_wp2_with fail
  refine (putB_c dst _ 4 true (by rfl) (by omega) (by omega) (by omega) _).mono ?_
  rintro e w2 ⟨u2, rfl, r2, b2, g2⟩
  obtain ⟨p2, c2, rfl, _, _⟩ := b2.shape
  have B2 := Lib.hid b2
  clear b2 r2
  go_wp2_with fail
  have b3 : Buf (w2.alloc (.cells #[.int .u8 0, .int .u8 (proto % 256)] 5)) (.slice (some ⟨w2.heap.size, 0, none⟩) 2 2) [0, proto % 256] :=
    (Row.lit w2 w2.heap.size (Nat.le_refl _) #[.int .u8 0, .int .u8 (proto % 256)] [0, proto % 256] rfl (by unfold maxLen; simp) _ rfl 2 rfl).buf (two_ok _ _ (by omega) (by omega))
  have g3 : Grew w2 (w2.alloc (.cells #[.int .u8 0, .int .u8 (proto % 256)] 5)) := (Grew.refl w2).alloc _
  generalize (w2.alloc (.cells #[.int .u8 0, .int .u8 (proto % 256)] 5)) = w3 at *
  generalize w2.heap.size = G3 at *
  have B3 := Lib.hid b3
  clear b3
  rw [wrap_u64]
  refine (putB_c (n % 18446744073709551616) _ 2 true (by rfl) (by omega) (by omega) (by omega) _).mono ?_
  rintro e w4 ⟨u4, rfl, r4, b4, g4⟩
  obtain ⟨p4, c4, rfl, _, _⟩ := b4.shape
  have B4 := Lib.hid b4
  clear b4 r4
  rw [putB_len, putB_len, putB_len]
  go_wp2_with fail
  have K5 : Blk (w4.alloc (.cells #[.slice p1 4 c1, .slice p2 4 c2, .slice (some ⟨G3, 0, none⟩) 2 2, .slice p4 2 c4] 23)) w4.heap.size #[.slice p1 4 c1, .slice p2 4 c2, .slice (some ⟨G3, 0, none⟩) 2 2, .slice p4 2 c4] 23 := Blk.new _ _ _ _ rfl
  have g5 : Grew w4 (w4.alloc (.cells #[.slice p1 4 c1, .slice p2 4 c2, .slice (some ⟨G3, 0, none⟩) 2 2, .slice p4 2 c4] 23)) := (Grew.refl w4).alloc _
  generalize (w4.alloc (.cells #[.slice p1 4 c1, .slice p2 4 c2, .slice (some ⟨G3, 0, none⟩) 2 2, .slice p4 2 c4] 23)) = w5 at *
  generalize w4.heap.size = G5 at *
  have b1' := B1.out.grew (((g2.trans g3).trans g4).trans g5)
  have b2' := B2.out.grew ((g3.trans g4).trans g5)
  have b3' := B3.out.grew (g4.trans g5)
  have b4' := B4.out.grew g5
  rw [putB_len] at b1' b2' b4'
  have hB : Bufs w5 (.slice (some ⟨G5, 0, none⟩) 4 4) [putL src 4 true, putL dst 4 true, [0, proto % 256], putL (n % 18446744073709551616) 2 true] :=
    Bufs.ofBlk K5 _ 4 4 rfl (by unfold maxLen; simp) (fun i hi => by
      match i, hi with
      | 0, _ => exact ⟨_, rfl, b1'⟩
      | 1, _ => exact ⟨_, rfl, b2'⟩
      | 2, _ => exact ⟨_, rfl, b3'⟩
      | 3, _ => exact ⟨_, rfl, b4'⟩)
  have HC := Lib.hid (concat_b w5 hB (by rw [pseudo_flat, pseudoV_len]; omega))
  rw [pseudo_flat] at HC
  have g05 := (((g1.trans g2).trans g3).trans g4).trans g5
  clear b1' b2' b3' b4' hB K5
  refine HC.out.mono ?_
  rintro e w6 ⟨u6, rfl, r6, b6, g6⟩
  have R6 := Lib.hid r6
  have B6 := Lib.hid b6
  clear r6 b6
  go_wp2_with fail
  go_ret
  exact ⟨_, rfl, R6.out.low g05.size, B6.out, g05.trans g6⟩
set_option maxHeartbeats 1000000 in
theorem refPseudo_c (src dst proto n : Int) (hs : 0 ≤ src ∧ src < 4294967296) (hd : 0 ≤ dst ∧ dst < 4294967296) (hp : -9223372036854775808 ≤ proto ∧ proto ≤ 9223372036854775807) (hn : -9223372036854775808 ≤ n ∧ n ≤ 9223372036854775807) (w : World) :
    Calls Try.prog 29 #[.int .u32 src, .int .u32 dst, .int .i64 proto, .int .i64 n] w fun e w' => ∃ u, e = .returned u ∧ Row w' w.heap.size u (pseudoV src dst proto n) ∧ Buf w' u (pseudoV src dst proto n) ∧ Grew w w' := by
  have hl1 : (putL src 4 true).length + (putL dst 4 true).length ≤ 140737488355328 := by rw [putB_len, putB_len]; omega
  have hl2 : (putL src 4 true ++ putL dst 4 true).length + [0, proto % 256].length ≤ 140737488355328 := by rw [List.length_append, putB_len, putB_len]; simp
  have hl3 : (putL src 4 true ++ putL dst 4 true ++ [0, proto % 256]).length + (putL (n % 18446744073709551616) 2 true).length ≤ 140737488355328 := by rw [List.length_append, List.length_append, putB_len, putB_len, putB_len]; simp
  have HL1 := Lib.hid hl1
  have HL2 := Lib.hid hl2
  have HL3 := Lib.hid hl3
  clear hl1 hl2 hl3
  go_enter Try.func29, Try.ntmps29
  go_wp2_with fail
  refine (refPutB_c src _ 4 true (by rfl) (by omega) (by omega) (by omega) _).mono ?_
  rintro e w1 ⟨u1, rfl, r1, b1, g1⟩
  have R1 := Lib.hid r1
  clear b1 r1
  go_wp2_with fail
  refine (refPutB_c dst _ 4 true (by rfl) (by omega) (by omega) (by omega) _).mono ?_
  rintro e w2 ⟨u2, rfl, r2, b2, g2⟩
  have B2 := Lib.hid b2
  clear b2 r2
  go_upto_region 2 with (refine wpList_append_b rfl (.tmp 12) (.tmp 15) rfl (g1.trans g2) (R1.out.grew g2) B2.out (by rfl) (by rfl) HL1.out ?_; intro v3 w3 R3 g3 x3; clear x3)
  go_wp2_with (refine wpList_append_b rfl (.tmp 17) (.tmp 20) rfl (g3.alloc _) (R3.out.alloc _) ((Row.lit w3 w3.heap.size (Nat.le_refl _) #[.int .u8 0, .int .u8 (proto % 256)] [0, proto % 256] rfl (by unfold maxLen; simp) _ rfl 2 rfl).buf (two_ok _ _ (by omega) (by omega))) (by rfl) (by rfl) HL2.out ?_; intro v4 w4 R4 g4 x4; clear x4)
  rw [wrap_u64]
  refine (refPutB_c (n % 18446744073709551616) _ 2 true (by rfl) (by omega) (by omega) (by omega) _).mono ?_
  rintro e w5 ⟨u5, rfl, r5, b5, g5⟩
  have B5 := Lib.hid b5
  clear b5 r5
  go_wp2_with (refine wpList_append_b rfl (.tmp 21) (.tmp 24) rfl (g4.trans g5) (R4.out.grew g5) B5.out (by rfl) (by rfl) HL3.out ?_; intro v6 w6 R6 g6 x6; clear x6)
  go_ret
  exact ⟨_, rfl, R6.out, R6.out.buf (pseudoV_ok _ _ _ _), g6⟩

/-! ### Plain facts -/
theorem putTwo_get {xs : List Int} {k : Nat} (x y : Int) (h : k + 2 ≤ xs.length) (i : Nat) : (putTwo xs k x y).getD i 0 = if i = k then x else if i = k + 1 then y else xs.getD i 0 := by
  simp only [List.getD_eq_getElem?_getD]
  unfold putTwo
  rw [lay_get _ _ _ _ (by simpa using h)]
  by_cases h1 : i < k
  · rw [if_pos h1, if_neg (by omega), if_neg (by omega)]
  · rw [if_neg h1]
    by_cases h2 : i = k
    · subst h2; simp
    · by_cases h3 : i = k + 1
      · subst h3
        rw [if_pos (by simp), if_neg h2, if_pos rfl]
        simp
      · rw [if_neg (by simp; omega), if_neg h2, if_neg h3]
theorem putTwo_pair {xs : List Int} {m : Nat} (x y : Int) (h : 2 * m + 2 ≤ xs.length) (i : Nat) : pairV (putTwo xs (2 * m) x y) i = if i = m then x * 256 + y else pairV xs i := by
  unfold pairV
  rw [putTwo_get x y h, putTwo_get x y h]
  by_cases e : i = m
  · subst e
    rw [if_pos rfl, if_neg (by omega), if_pos rfl, if_pos rfl]
  · rw [if_neg (by omega), if_neg (by omega), if_neg (by omega), if_neg (by omega), if_neg e]
theorem putTwo_pairsTo {xs : List Int} {m : Nat} (x y : Int) (h : 2 * m + 2 ≤ xs.length) (j : Nat) : pairsTo (putTwo xs (2 * m) x y) j = pairsTo (putTwo xs (2 * m) 0 0) j + if m < j then x * 256 + y else 0 := by
  induction j with
  | zero => simp [pairsTo]
  | succ j ih =>
    simp only [pairsTo]
    rw [ih, putTwo_pair x y h, putTwo_pair 0 0 h]
    by_cases e : j = m
    · subst e
      rw [if_pos rfl, if_pos rfl, if_neg (by omega), if_pos (by omega)]
      omega
    · rw [if_neg e, if_neg e]
      by_cases h2 : m < j
      · rw [if_pos h2, if_pos (by omega)]; omega
      · rw [if_neg h2, if_neg (by omega)]; omega
/-- What is patched is right. -/
theorem patch_right {xs : List Int} (ok : AreBytes xs) (at' : Int) (h : isPairV xs.length at' = true) : sumV (patchV xs at') = 0 := by
  have h' := h
  unfold isPairV at h'
  have h' := of_decide_eq_true h'
  obtain ⟨m, rfl⟩ : ∃ m : Nat, at' = ((2 * m : Nat) : Int) := ⟨(at' / 2).toNat, by omega⟩
  rw [patchV_yes _ h]
  have hk : 2 * m + 2 ≤ xs.length := by omega
  have hz := pairsTo_lt (putTwo_ok ok (2 * m) (x := 0) (y := 0) (by omega) (by omega)) ((xs.length + 1) / 2)
  have e0 : sumV (putTwo xs (2 * m) 0 0) = 65535 - foldV (pairsTo (putTwo xs (2 * m) 0 0) ((xs.length + 1) / 2)) := by
    unfold sumV pairsV
    rw [putTwo_len _ _ hk]
  rw [e0]
  have e1 : ∀ s : Int, sumV (putTwo xs (2 * m) (s / 256) (s % 256)) = 65535 - foldV (pairsTo (putTwo xs (2 * m) 0 0) ((xs.length + 1) / 2) + s) := fun s => by
    unfold sumV pairsV
    rw [putTwo_len _ _ hk, putTwo_pairsTo _ _ hk, if_pos (by omega)]
    congr 2
    omega
  rw [e1]
  generalize pairsTo (putTwo xs (2 * m) 0 0) ((xs.length + 1) / 2) = T at *
  unfold foldV
  split <;> split <;> omega
/-- Two texts behind one another, the first one even, add up. -/
theorem pairV_left {a : List Int} (b : List Int) {m i : Nat} (h : a.length = 2 * m) (hi : i < m) : pairV (a ++ b) i = pairV a i := by
  unfold pairV
  simp only [List.getD_eq_getElem?_getD]
  rw [List.getElem?_append_left (by omega), List.getElem?_append_left (by omega)]
theorem pairV_right {a : List Int} (b : List Int) {m : Nat} (i : Nat) (h : a.length = 2 * m) : pairV (a ++ b) (m + i) = pairV b i := by
  unfold pairV
  simp only [List.getD_eq_getElem?_getD]
  rw [List.getElem?_append_right (by omega), List.getElem?_append_right (by omega), h, show 2 * (m + i) - 2 * m = 2 * i by omega, show 2 * (m + i) + 1 - 2 * m = 2 * i + 1 by omega]
theorem pairsTo_left {a : List Int} (b : List Int) {m : Nat} (h : a.length = 2 * m) : ∀ j, j ≤ m → pairsTo (a ++ b) j = pairsTo a j
  | 0, _ => rfl
  | j + 1, hj => by
    simp only [pairsTo]
    rw [pairsTo_left b h j (by omega), pairV_left b h (by omega)]
theorem pairsTo_right {a : List Int} (b : List Int) {m : Nat} (h : a.length = 2 * m) : ∀ j, pairsTo (a ++ b) (m + j) = pairsTo a m + pairsTo b j
  | 0 => by simp [pairsTo, pairsTo_left b h m (Nat.le_refl m)]
  | j + 1 => by
    rw [← Nat.add_assoc]
    simp only [pairsTo]
    rw [pairsTo_right b h j, pairV_right b j h]
    omega
theorem pairsV_append {a b : List Int} (h : a.length % 2 = 0) : pairsV (a ++ b) = pairsV a + pairsV b := by
  obtain ⟨m, hm⟩ : ∃ m, a.length = 2 * m := ⟨a.length / 2, by omega⟩
  unfold pairsV
  rw [List.length_append, hm, show (2 * m + b.length + 1) / 2 = m + (b.length + 1) / 2 by omega, pairsTo_right b hm, show (2 * m + 1) / 2 = m by omega]
theorem sumV_append {a b : List Int} (ha : AreBytes a) (hb : AreBytes b) (h : a.length % 2 = 0) : sumV (a ++ b) = 65535 - (if 65535 < (65535 - sumV a) + (65535 - sumV b) then (65535 - sumV a) + (65535 - sumV b) - 65535 else (65535 - sumV a) + (65535 - sumV b)) := by
  have h1 := (pairsTo_lt ha ((a.length + 1) / 2)).1
  have h2 := (pairsTo_lt hb ((b.length + 1) / 2)).1
  unfold sumV
  rw [pairsV_append h]
  unfold pairsV
  generalize pairsTo a ((a.length + 1) / 2) = x at *
  generalize pairsTo b ((b.length + 1) / 2) = y at *
  unfold foldV
  split <;> split <;> split <;> split <;> omega
theorem sumV_swap {a b : List Int} (h1 : a.length % 2 = 0) (h2 : b.length % 2 = 0) : sumV (a ++ b) = sumV (b ++ a) := by
  unfold sumV
  rw [pairsV_append h1, pairsV_append h2, Int.add_comm]

/-! ### What must come at any rate -/
def hdB : List Int := [0, 1, 242, 3, 244, 245, 246, 247]
def hdP : List Int := [0, 0, 0, 1, 0, 0, 0, 2, 0, 17, 1, 2]
theorem hd1 : sumV hdB = 8717 := by decide +kernel
theorem hd2 : sumV (patchV hdB 2) = 0 := by decide +kernel
theorem hd3 : pseudoV 1 2 17 258 = hdP := by decide +kernel
theorem hd4 : sumV [] = 65535 := by decide +kernel
theorem hd5 : isPairV 8 2 = true := by decide +kernel
theorem hdB_ok : AreBytes hdB := by
  intro x hx
  simp [hdB] at hx
  omega
theorem hdP_ok : AreBytes hdP := by
  intro x hx
  simp [hdP] at hx
  omega
theorem patch_ok {xs : List Int} (h : AreBytes xs) (at' : Int) : AreBytes (patchV xs at') := by
  unfold patchV
  split
  · have := sumV_lt (putTwo xs at'.toNat 0 0)
    exact putTwo_ok h _ (by omega) (by omega)
  · exact h
theorem patch_len (xs : List Int) (at' : Int) : (patchV xs at').length = xs.length := by
  unfold patchV
  split
  · rename_i h
    unfold isPairV at h
    have := of_decide_eq_true h
    exact putTwo_len _ _ (by omega)
  · rfl
end Go.Proofs.Ytiaejlbkdgcfiaa
