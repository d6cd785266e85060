/-
  Package sum: isPair, Patch, and the document's own Patch.
-/
import Derived.Test.YtiaejlbkdgcfiaaSmA
import Derived.Test.YtiaejlbkdgcfiaaRowSet
import Derived.Test.YtiaejlbkdgcfiaaPutB
import Derived.Deep.RegionHeld3
set_option maxRecDepth 4000
set_option linter.unusedVariables false
set_option linter.unusedSimpArgs false
namespace Go.Proofs.Ytiaejlbkdgcfiaa
open Go.RowKit

/-- Does a pair with both its bytes stand at this place of n bytes? -/
def isPairV (n : Nat) (at' : Int) : Bool := decide (0 ≤ at' ∧ at' % 2 = 0 ∧ at' ≤ (n : Int) - 2)
/-- The bytes with two others at place k. -/
def putTwo (xs : List Int) (k : Nat) (x y : Int) : List Int := lay xs k [x, y]
/-- What Patch answers. -/
def patchV (xs : List Int) (at' : Int) : List Int :=
  if isPairV xs.length at' = true then putTwo xs at'.toNat (sumV (putTwo xs at'.toNat 0 0) / 256) (sumV (putTwo xs at'.toNat 0 0) % 256) else xs
theorem patchV_no {xs : List Int} {at' : Int} (h : isPairV xs.length at' = false) : patchV xs at' = xs := by
  unfold patchV; rw [if_neg (by rw [h]; simp)]
theorem patchV_yes {xs : List Int} (k : Nat) (h : isPairV xs.length (k : Int) = true) : patchV xs k = putTwo xs k (sumV (putTwo xs k 0 0) / 256) (sumV (putTwo xs k 0 0) % 256) := by
  unfold patchV; rw [if_pos h, Int.toNat_natCast]

theorem isPair_c (a : Option Addr) (n c : Nat) (at' : Int) (hn : n ≤ maxLen) (h0 : -9223372036854775808 ≤ at') (h1 : at' ≤ 9223372036854775807) (w : World) :
    Calls Try.prog 42 #[.slice a n c, .int .i64 at'] w fun e w' => e = .returned (.bool (isPairV n at')) ∧ w' = w := by
  unfold maxLen at hn
  have hv : isPairV n at' = (decide (0 ≤ at') && (decide (at' % 2 = 0) && decide (at' ≤ (n : Int) - 2))) := by
    unfold isPairV
    rw [Bool.decide_and, Bool.decide_and]
  by_cases a1 : 0 ≤ at'
  · by_cases a2 : at' % 2 = 0
    · by_cases a3 : at' ≤ (n : Int) - 2
      · rw [show isPairV n at' = true by rw [hv, decide_eq_true a1, decide_eq_true a2, decide_eq_true a3]; rfl]
        clear hv
        go_enter Try.func42, Try.ntmps42
        go_wp2_with fail
        go_ret
        exact ⟨rfl, rfl⟩
      · rw [show isPairV n at' = false by rw [hv, decide_eq_false a3]; simp]
        clear hv
        go_enter Try.func42, Try.ntmps42
        go_wp2_with fail
        go_ret
        exact ⟨rfl, rfl⟩
    · rw [show isPairV n at' = false by rw [hv, decide_eq_false a2]; simp]
      clear hv
      go_enter Try.func42, Try.ntmps42
      go_wp2_with fail
      go_ret
      exact ⟨rfl, rfl⟩
  · rw [show isPairV n at' = false by rw [hv, decide_eq_false a1]; simp]
    clear hv
    go_enter Try.func42, Try.ntmps42
    go_wp2_with fail
    go_ret
    exact ⟨rfl, rfl⟩

theorem patch_no {v : Value} {xs : List Int} (at' : Int) (h0 : -9223372036854775808 ≤ at') (h1 : at' ≤ 9223372036854775807) (h : isPairV xs.length at' = false) (w : World) (hb : Buf w v xs) (hl : xs.length ≤ 140737488355328) :
    Calls Try.prog 24 #[v, .int .i64 at'] w fun e w' => ∃ u, e = .returned u ∧ Row w' w.heap.size u xs ∧ Grew w w' := by
  obtain ⟨a, c, rfl, hc, ha⟩ := hb.shape
  have hp := isPair_c a xs.length c at' hb.len h0 h1
  rw [h] at hp
  have HP := Lib.hid hp
  have HB := Lib.hid hb
  clear hb ha hc hp h
  go_enter Try.func24, Try.ntmps24
  go_upto_region 2 with (refine wpList_make_b rfl (.tmp 8) (.tmp 8) rfl (Grew.refl _) .i64 .i64 _ _ xs.length rfl rfl rfl rfl (by omega) ?_; intro w1 HR g1)
  go_wp2_with (first | (refine wpList_copy_b rfl (.tmp 10) (.tmp 11) rfl g1 HR.out rfl (HB.out.grew g1) (by rfl) 0 _ _ _ (by rfl) (fun _ => rfl) (by simp) ?_; intro w2 HR2 g2 o2) | (refine (HP.out _).mono ?_; rintro e w3 ⟨rfl, h3⟩; obtain rfl := h3.symm))
  go_ret
  refine ⟨_, rfl, ?_, g2⟩
  have h := HR2.out
  rw [show lay (List.replicate xs.length 0) 0 (xs.take xs.length) = xs by simp [lay]] at h
  exact h

theorem put_two (s : Int) (h0 : 0 ≤ s) (h1 : s ≤ 65535) : putL s 2 true = [s / 256, s % 256] := by
  simp [putL, placeV, byteV, List.range_succ]
  omega
theorem putTwo_len {xs : List Int} {k : Nat} (x y : Int) (h : k + 2 ≤ xs.length) : (putTwo xs k x y).length = xs.length := lay_length h
theorem putTwo_again (xs : List Int) (k : Nat) (x y z u : Int) (h : k + 2 ≤ xs.length) : lay (putTwo xs k x y) k [z, u] = putTwo xs k z u := by
  unfold putTwo lay
  have h1 : (List.take k xs).length = k := by rw [List.length_take]; omega
  rw [List.take_append_of_le_length (by omega), List.take_of_length_le (by omega)]
  congr 2
  rw [List.drop_append, h1, List.drop_eq_nil_of_le (by simp; omega)]
  simp
theorem putTwo_ok {xs : List Int} (h : AreBytes xs) (k : Nat) {x y : Int} (hx : 0 ≤ x ∧ x < 256) (hy : 0 ≤ y ∧ y < 256) : AreBytes (putTwo xs k x y) := by
  refine h.lay (fun z hz => ?_) k
  simp only [List.mem_cons, List.not_mem_nil, or_false] at hz
  rcases hz with rfl | rfl <;> assumption
set_option maxHeartbeats 1000000 in
theorem patch_yes {v : Value} {xs : List Int} (k : Nat) (h : isPairV xs.length (k : Int) = true) (w : World) (hb : Buf w v xs) (hl : xs.length ≤ 140737488355328) :
    Calls Try.prog 24 #[v, .int .i64 k] w fun e w' => ∃ u, e = .returned u ∧ Row w' w.heap.size u (patchV xs k) ∧ Grew w w' := by
  obtain ⟨a, c, rfl, hc, ha⟩ := hb.shape
  have hk : k + 2 ≤ xs.length := by unfold isPairV at h; have := of_decide_eq_true h; omega
  have hp := isPair_c a xs.length c k hb.len (by omega) (by omega)
  rw [h] at hp
  rw [patchV_yes k h]
  obtain ⟨q, hq⟩ : ∃ q : Int, q = (k : Int) := ⟨_, rfl⟩
  have hq0 : 0 ≤ q := by omega
  have hq1 : q + 2 ≤ (xs.length : Int) := by omega
  rw [← hq] at hp ⊢
  have HQ := Lib.hid hq
  have HK := Lib.hid hk
  have HP := Lib.hid hp
  have HB := Lib.hid hb
  have HOK := Lib.hid hb.ok
  clear hb ha hc hp h hq hk
  go_enter Try.func24, Try.ntmps24
  go_upto_region 2 with (refine wpList_make_b rfl (.tmp 8) (.tmp 8) rfl (Grew.refl _) .i64 .i64 _ _ xs.length rfl rfl rfl rfl (by omega) ?_; intro w1 HR g1)
  go_upto_region 3 with (refine wpList_copy_b rfl (.tmp 10) (.tmp 11) rfl g1 HR.out rfl (HB.out.grew g1) (by rfl) 0 _ _ _ (by rfl) (fun _ => rfl) (by simp) ?_; intro w2 HR2 g2 o2)
  have hr2 := HR2.out
  rw [show lay (List.replicate xs.length 0) 0 (xs.take xs.length) = xs by simp [lay]] at hr2
  have hbuf2 := hr2.buf HOK.out
  obtain ⟨a', c', hcut, hat0, hrun, x1, x2⟩ := hbuf2.run_cut (lo := k) (hi := k + 2) (by omega) HK.out
  rw [show k + 2 - k = 2 by omega] at hcut hat0 hrun
  have hat := hat0 (by omega)
  have hrun' : ∀ w', (Instr.sliceAt 23 (.slice (some ⟨w.heap.size, 0, none⟩) xs.length xs.length) (some (.int .i64 q)) (some (.int .i64 (q + 2))) none).run Try.prog w' = .ok (.slice a' 2 c') w' := fun w' => by
    have := hrun .i64 .i64 w'
    rwa [show ((k + 2 : Nat) : Int) = q + 2 by rw [HQ.out]; omega, ← HQ.out] at this
  have ha' : a' = some ⟨w.heap.size, k, none⟩ := by rw [hat]; simp [Addr.add]; omega
  subst ha'
  have HRUN := Lib.hid hrun'
  have HR2' := Lib.hid hr2
  clear hat hat0 x1 x2 hrun hcut hbuf2 hr2 HR HR2 o2 g1
  go_upto_region 5 with (refine (HP.out _).mono ?_; rintro e w3 ⟨rfl, h3⟩; obtain rfl := h3.symm)
  go_upto_region 6 with fail
  clear hrun'
  go_upto_region 7 with (first | (refine wpList_clear_b rfl (.tmp 23) rfl g2 HR2'.out k 2 c' (by rfl) (by omega) HK.out ?_; intro w4 HR4 g4 o4))
  have hr4 : Row w4 w.heap.size (.slice (some ⟨w.heap.size, 0, none⟩) xs.length xs.length) (putTwo xs k 0 0) := HR4.out
  have hok4 : AreBytes (putTwo xs k 0 0) := putTwo_ok HOK.out k (by omega) (by omega)
  have hs := sum_c w4 (hr4.buf hok4) (by rw [putTwo_len _ _ HK.out]; exact hl)
  have hsb := sumV_lt (putTwo xs k 0 0)
  generalize hS : sumV (putTwo xs k 0 0) = S at *
  have HSum := Lib.hid hs
  have HR5 := Lib.hid hr4
  have HS := Lib.hid hS
  clear hs hr4 HR4 hS hok4 o4
  go_wp2_with (first
    | (refine HSum.out.mono ?_; rintro e w5 ⟨rfl, g5⟩)
    | (refine (putB_c _ _ 2 true (by rfl) (by omega) (by omega) (by omega) _).mono ?_; rintro e w6 ⟨u6, rfl, r6, hb6, g6⟩; rw [put_two S hsb.1 hsb.2] at hb6; clear r6; have HB6 := Lib.hid hb6; clear hb6)
    | (refine wpList_copy_b rfl (.tmp 24) (.tmp 28) rfl ((g4.trans g5).trans g6) ((HR5.out.grew g5).grew g6) rfl HB6.out (by rfl) k _ _ _ (by rfl) (fun _ => rfl) (by rw [putTwo_len _ _ HK.out]; exact HK.out) ?_; intro w7 HR7 g7 o7))
  go_ret
  refine ⟨_, rfl, ?_, g7⟩
  have h7 := HR7.out
  rw [HS.out]
  rw [show List.take 2 [S / 256, S % 256] = [S / 256, S % 256] from rfl, putTwo_again xs k _ _ _ _ HK.out] at h7
  exact h7
theorem patch_c {v : Value} {xs : List Int} (at' : Int) (h0 : -9223372036854775808 ≤ at') (h1 : at' ≤ 9223372036854775807) (w : World) (hb : Buf w v xs) (hl : xs.length ≤ 140737488355328) :
    Calls Try.prog 24 #[v, .int .i64 at'] w fun e w' => ∃ u, e = .returned u ∧ Row w' w.heap.size u (patchV xs at') ∧ Grew w w' := by
  cases h : isPairV xs.length at'
  · rw [patchV_no h]
    exact patch_no at' h0 h1 h w hb hl
  · obtain ⟨k, rfl⟩ := Int.eq_ofNat_of_zero_le (a := at') (by unfold isPairV at h; have := of_decide_eq_true h; omega)
    exact patch_yes k h w hb hl

/-! ### The document's own -/
theorem isPairV_no {n : Nat} {at' : Int} (h : isPairV n at' = false) : at' < 0 ∨ (0 ≤ at' ∧ at' % 2 ≠ 0) ∨ (0 ≤ at' ∧ at' % 2 = 0 ∧ (n : Int) - 1 ≤ at') := by
  unfold isPairV at h
  have := of_decide_eq_false h
  omega
theorem refPatch_no {v : Value} {xs : List Int} (at' : Int) (h0 : -9223372036854775808 ≤ at') (h1 : at' ≤ 9223372036854775807) (h : isPairV xs.length at' = false) (w : World) (hb : Buf w v xs) (hl : xs.length ≤ 140737488355328) :
    Calls Try.prog 37 #[v, .int .i64 at'] w fun e w' => ∃ u, e = .returned u ∧ Row w' w.heap.size u xs ∧ Grew w w' := by
  obtain ⟨a, c, rfl, hc, ha⟩ := hb.shape
  have HB := Lib.hid (hb.grew ((Grew.refl w).alloc (.cells #[] 5)))
  have hno := isPairV_no h
  clear hb ha hc h
  have hll : ([] : List Int).length + xs.length ≤ 140737488355328 := by simpa using hl
  have HLL := Lib.hid hll
  clear hll
  rcases hno with h2 | ⟨h2, h3⟩ | ⟨h2, h3, h4⟩
  · go_enter Try.func37, Try.ntmps37
    go_wp2_with (refine wpList_append_b rfl (.tmp 7) (.tmp 8) rfl ((Grew.refl w).alloc _) (Row.lit w w.heap.size (Nat.le_refl _) #[] [] rfl (Nat.zero_le _) _ rfl 0 rfl) HB.out (by rfl) (by rfl) HLL.out ?_; intro v1 w1 HR1 g1 x1; clear x1)
    go_ret
    exact ⟨_, rfl, HR1.out, g1⟩
  · have h3' : (at' % 2 != 0) = true := by simpa using h3
    go_enter Try.func37, Try.ntmps37
    go_wp2_with (refine wpList_append_b rfl (.tmp 7) (.tmp 8) rfl ((Grew.refl w).alloc _) (Row.lit w w.heap.size (Nat.le_refl _) #[] [] rfl (Nat.zero_le _) _ rfl 0 rfl) HB.out (by rfl) (by rfl) HLL.out ?_; intro v1 w1 HR1 g1 x1; clear x1)
    go_ret
    exact ⟨_, rfl, HR1.out, g1⟩
  · go_enter Try.func37, Try.ntmps37
    go_wp2_with (refine wpList_append_b rfl (.tmp 7) (.tmp 8) rfl ((Grew.refl w).alloc _) (Row.lit w w.heap.size (Nat.le_refl _) #[] [] rfl (Nat.zero_le _) _ rfl 0 rfl) HB.out (by rfl) (by rfl) HLL.out ?_; intro v1 w1 HR1 g1 x1; clear x1)
    go_ret
    exact ⟨_, rfl, HR1.out, g1⟩
set_option maxHeartbeats 1000000 in
theorem refPatch_yes {v : Value} {xs : List Int} (k : Nat) (h : isPairV xs.length (k : Int) = true) (w : World) (hb : Buf w v xs) (hl : xs.length ≤ 140737488355328) :
    Calls Try.prog 37 #[v, .int .i64 k] w fun e w' => ∃ u, e = .returned u ∧ Row w' w.heap.size u (patchV xs k) ∧ Grew w w' := by
  obtain ⟨a, c, rfl, hc, ha⟩ := hb.shape
  have HB := Lib.hid (hb.grew ((Grew.refl w).alloc (.cells #[] 5)))
  have HOK := Lib.hid hb.ok
  rw [patchV_yes k h]
  have hk0 : k + 2 ≤ xs.length ∧ (k : Int) % 2 = 0 := by unfold isPairV at h; have := of_decide_eq_true h; omega
  obtain ⟨hk, hk2⟩ := hk0
  obtain ⟨q, hq⟩ : ∃ q : Int, q = (k : Int) := ⟨_, rfl⟩
  have hq0 : 0 ≤ q := by omega
  have hq1 : q + 2 ≤ (xs.length : Int) := by omega
  have hq2 : q.toNat = k := by omega
  have hq3 : (q + 1).toNat = k + 1 := by omega
  rw [← hq] at hk2 ⊢
  have HQ := Lib.hid hq
  have HK := Lib.hid hk
  have hll : ([] : List Int).length + xs.length ≤ 140737488355328 := by simpa using hl
  have HLL := Lib.hid hll
  clear hb ha hc h hq hk hll
  go_enter Try.func37, Try.ntmps37
  go_upto_region 2 with (refine wpList_append_b rfl (.tmp 7) (.tmp 8) rfl ((Grew.refl w).alloc _) (Row.lit w w.heap.size (Nat.le_refl _) #[] [] rfl (Nat.zero_le _) _ rfl 0 rfl) HB.out (by rfl) (by rfl) HLL.out ?_; intro v1 w1 HR1 g1 x1; clear x1)
  have hr1 : Row w1 w.heap.size v1 xs := HR1.out
  obtain ⟨g, cap, e1⟩ : ∃ g cap, v1 = .slice (some ⟨g, 0, none⟩) xs.length cap := by
    rcases hr1.2 with ⟨_, h0⟩ | ⟨g, cap, _, e, _⟩
    · have := HK.out; omega
    · exact ⟨g, cap, e⟩
  subst e1
  have hgz := hr1.size.2
  have hcs0 : w1.cell? ⟨g, k, none⟩ = some (.int .u8 (xs.getD k 0)) := hr1.cellAt k (by have := HK.out; omega)
  have hcs1 : w1.cell? ⟨g, k + 1, none⟩ = some (.int .u8 (xs.getD (k + 1) 0)) := hr1.cellAt (k + 1) (by have := HK.out; omega)
  have hf0 := hr1.freeAt k
  have hf1 := hr1.freeAt (k + 1)
  have HR1' := Lib.hid hr1
  have HG := Lib.hid hgz
  clear hr1 HR1 hgz
  go_upto_region 5 with fail
  obtain ⟨hr2, ho2⟩ := Row.setCells [0, 0] k w1 xs HR1'.out HK.out
  have hr2 : Row ((w1.setCell ⟨g, k, none⟩ (.int .u8 0)).setCell ⟨g, k + 1, none⟩ (.int .u8 0)) w.heap.size (.slice (some ⟨g, 0, none⟩) xs.length cap) (putTwo xs k 0 0) := hr2
  have g2 : Grew w ((w1.setCell ⟨g, k, none⟩ (.int .u8 0)).setCell ⟨g, k + 1, none⟩ (.int .u8 0)) := ho2.grew g1 HG.out.1
  generalize ((w1.setCell ⟨g, k, none⟩ (.int .u8 0)).setCell ⟨g, k + 1, none⟩ (.int .u8 0)) = w2 at *
  clear ho2 hcs0 hcs1 hf0 hf1 g1
  have hok2 : AreBytes (putTwo xs k 0 0) := putTwo_ok HOK.out k (by omega) (by omega)
  have hs := refSum_c w2 (hr2.buf hok2) (by rw [putTwo_len _ _ HK.out]; exact hl)
  have hsb := sumV_lt (putTwo xs k 0 0)
  generalize hS : sumV (putTwo xs k 0 0) = S at *
  have HSum := Lib.hid hs
  have HR2 := Lib.hid hr2
  have HS := Lib.hid hS
  clear hs hr2 hS hok2
  go_upto_region 6 with (go_at_call 28; refine HSum.out.mono ?_; rintro e w3 ⟨rfl, g3⟩)
  have hr3 := HR2.out.grew g3
  have hcs0 := hr3.cellAt k (by rw [putTwo_len _ _ HK.out]; have := HK.out; omega)
  have hcs1 := hr3.cellAt (k + 1) (by rw [putTwo_len _ _ HK.out]; have := HK.out; omega)
  have hf0 := hr3.freeAt k
  have hf1 := hr3.freeAt (k + 1)
  have HR3 := Lib.hid hr3
  clear hr3
  go_wp2_with fail
  go_ret
  obtain ⟨hr4, ho4⟩ := Row.setCells [S / 256, S % 256] k w3 _ HR3.out (by rw [putTwo_len _ _ HK.out]; exact HK.out)
  rw [putTwo_again xs k _ _ _ _ HK.out] at hr4
  rw [HS.out]
  exact ⟨_, rfl, hr4, ho4.grew (g2.trans g3) HG.out.1⟩
theorem refPatch_c {v : Value} {xs : List Int} (at' : Int) (h0 : -9223372036854775808 ≤ at') (h1 : at' ≤ 9223372036854775807) (w : World) (hb : Buf w v xs) (hl : xs.length ≤ 140737488355328) :
    Calls Try.prog 37 #[v, .int .i64 at'] w fun e w' => ∃ u, e = .returned u ∧ Row w' w.heap.size u (patchV xs at') ∧ Grew w w' := by
  cases h : isPairV xs.length at'
  · rw [patchV_no h]
    exact refPatch_no at' h0 h1 h w hb hl
  · obtain ⟨k, rfl⟩ := Int.eq_ofNat_of_zero_le (a := at') (by unfold isPairV at h; have := of_decide_eq_true h; omega)
    exact refPatch_yes k h w hb hl
end Go.Proofs.Ytiaejlbkdgcfiaa
