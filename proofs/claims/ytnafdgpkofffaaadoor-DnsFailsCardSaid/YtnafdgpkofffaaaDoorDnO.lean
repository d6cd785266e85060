/-
  Package dns: Id, Query, With, Fail; what the laws ask of the program.
-/
import Derived.Test.YtnafdgpkofffaaaDoorDnI
import Derived.Test.YtnafdgpkofffaaaDoorDnJ
import Derived.Test.YtnafdgpkofffaaaDoorDnW
set_option maxRecDepth 4000
set_option linter.unusedVariables false
set_option linter.unusedSimpArgs false
namespace Go.Proofs.YtnafdgpkofffaaaDoor
open Go.RowKit

theorem Id21_c {v : Value} {xs : List Int} {w : World} (hb : Buf w v xs) :
    Calls Tryd.prog 9 #[v] w fun e w' => e = .returned (.tuple #[.int .i64 (idV xs).1, .bool (idV xs).2]) ∧ Grew w w' := by
  have hq := hb
  obtain ⟨a, c, rfl, _, _⟩ := hb.shape
  have HH := Lib.hid (fun w => hasHead_c a xs.length c w)
  unfold idV
  by_cases k0 : xs.length < 12
  · rw [if_pos k0]
    rw [decide_eq_false (by omega)] at HH
    clear hb hq k0
    go_enter Tryd.func9, Tryd.ntmps9
    go_wp2_with fail
    refine (HH.out _).mono ?_
    rintro e wx ⟨rfl, h9⟩
    obtain rfl := h9.symm
    go_wp2_with fail
    go_ret2
    exact ⟨rfl, Grew.refl _⟩
  · rw [if_neg k0]
    rw [decide_eq_true (by omega)] at HH
    have HP := Lib.hid (pairAt_c 0 0 2 rfl rfl (by omega) w hq)
    clear hb hq k0
    generalize getV (cutL xs 0 2) true = z at *
    go_enter Tryd.func9, Tryd.ntmps9
    go_wp2_with fail
    refine (HH.out _).mono ?_
    rintro e wx ⟨rfl, h9⟩
    obtain rfl := h9.symm
    go_wp2_with fail
    refine (HP.out).mono ?_
    rintro e wx ⟨rfl, h9⟩
    obtain rfl := h9.symm
    go_wp2_with fail
    go_ret2
    exact ⟨rfl, Grew.refl _⟩
theorem and15b (x : Int) (h : 0 ≤ x ∧ x < 65536) : bits .and .i64 x 32768 = if x < 32768 then 0 else 32768 := by
  show IntKind.i64.wrap ((BitVec.ofInt 64 x &&& BitVec.ofInt 64 32768).toNat : Int) = _
  obtain ⟨n, rfl⟩ := Int.eq_ofNat_of_zero_le h.1
  have hn : (BitVec.ofInt 64 (n : Int)).toNat = n := by rw [BitVec.toNat_ofInt]; omega
  have h2 : n < 65536 := by omega
  have h3 : n &&& 2 ^ 15 = if n < 32768 then 0 else 2 ^ 15 := by
    refine Nat.eq_of_testBit_eq fun i => ?_
    rw [Nat.testBit_and, Nat.testBit_two_pow]
    by_cases hi : 15 = i
    · subst hi
      rw [Nat.testBit_eq_decide_div_mod_eq]
      by_cases hlt : n < 32768
      · rw [if_pos hlt, show decide (n / 2 ^ 15 % 2 = 1) = false from decide_eq_false (by omega)]; rfl
      · rw [if_neg hlt, show decide (n / 2 ^ 15 % 2 = 1) = true from decide_eq_true (by omega)]; rfl
    · rw [decide_eq_false hi, Bool.and_false]
      split
      · simp
      · rw [Nat.testBit_two_pow, decide_eq_false hi]
  rw [BitVec.toNat_and, hn, show (BitVec.ofInt 64 32768).toNat = 2 ^ 15 from rfl, h3]
  by_cases hlt : n < 32768
  · rw [if_pos hlt, if_pos (by omega)]; rfl
  · rw [if_neg hlt, if_neg (by omega)]; rfl
theorem getV_cut {xs : List Int} {k : Nat} (h : k + 2 ≤ xs.length) : getV (cutL xs k (k + 2)) true = xs.getD (k + 1) 0 + xs.getD k 0 * 256 := by
  have e : cutL xs k (k + 2) = [xs.getD k 0, xs.getD (k + 1) 0] := by
    unfold cutL
    rw [drop_cons (by omega), drop_cons (by omega), show k + 2 - k = 2 by omega]
    rfl
  rw [e, getV_two]
theorem Query21_c {v : Value} {xs : List Int} {w : World} (hb : Buf w v xs) :
    Calls Tryd.prog 11 #[v] w fun e w' => e = .returned (.bool (qyV xs)) ∧ Grew w w' := by
  have hq := hb
  obtain ⟨a, c, rfl, _, _⟩ := hb.shape
  have HH := Lib.hid (fun w => hasHead_c a xs.length c w)
  unfold qyV
  by_cases k0 : 12 ≤ xs.length
  · rw [decide_eq_true k0] at HH ⊢
    rw [Bool.true_and]
    have HP := Lib.hid (pairAt_c 2 2 4 rfl rfl (by omega) w hq)
    have hz : getV (cutL xs 2 4) true = xs.getD 3 0 + xs.getD 2 0 * 256 := getV_cut (k := 2) (by omega)
    have b2 := hq.ok.getD 2
    have b3 := hq.ok.getD 3
    have ha := and15b (getV (cutL xs 2 4) true) (by rw [hz]; omega)
    have hc : (bits .and .i64 (getV (cutL xs 2 4) true) 32768 == 0) = decide (xs.getD 2 0 < 128) := by
      rw [ha, hz]
      by_cases h : xs.getD 2 0 < 128
      · rw [if_pos (by omega), decide_eq_true h]; rfl
      · rw [if_neg (by omega), decide_eq_false h]; rfl
    clear hb hq k0 hz ha b2 b3
    generalize getV (cutL xs 2 4) true = z at *
    generalize xs.getD 2 0 = y at *
    obtain ⟨q, hqd⟩ : ∃ q, q = decide (y < 128) := ⟨_, rfl⟩
    rw [← hqd] at hc ⊢
    obtain ⟨u, hu⟩ : ∃ u, u = bits .and .i64 z 32768 := ⟨_, rfl⟩
    rw [← hu] at hc
    have hu2 := hu.symm
    clear hqd hu
    go_enter Tryd.func11, Tryd.ntmps11
    go_wp2_with fail
    refine (HH.out _).mono ?_
    rintro e wx ⟨rfl, h9⟩
    obtain rfl := h9.symm
    go_wp2_with fail
    refine (HP.out).mono ?_
    rintro e wx ⟨rfl, h9⟩
    obtain rfl := h9.symm
    go_wp2_with fail
    go_ret
    refine ⟨?_, Grew.refl _⟩
    rw [← hc]
    rfl
  · rw [decide_eq_false k0] at HH ⊢
    rw [Bool.false_and]
    clear hb hq k0
    go_enter Tryd.func11, Tryd.ntmps11
    go_wp2_with fail
    refine (HH.out _).mono ?_
    rintro e wx ⟨rfl, h9⟩
    obtain rfl := h9.symm
    go_wp2_with fail
    go_ret
    exact ⟨rfl, Grew.refl _⟩
/-- What the operations of a region give. -/
def rgWi (W : World) (g n c c2 : Nat) (id : Int) : (Nat → Value) → Nat → Value → World → Prop
  | _, 0, v, _ => v = .slice (some ⟨g, 0, none⟩) n c
  | _, 1, v, _ => v = .slice (some ⟨g, 0, none⟩) n c2
  | _, 2, v, _ => v = .int .i64 id
  | _, 3, v, w => ∃ a c, v = .slice a 2 c ∧ Buf w (.slice a 2 c) (putL id 2 true)
  | _, _, _, _ => True
theorem rgWi_grew {W : World} {g n c c2 : Nat} {id : Int} : ∀ vs j v w w', Grew w w' → rgWi W g n c c2 id vs j v w → rgWi W g n c c2 id vs j v w'
  | _, 0, _, _, _, _, h => h
  | _, 1, _, _, _, _, h => h
  | _, 2, _, _, _, _, h => h
  | _, 3, _, _, _, g, ⟨b0, b1, e, h0⟩ => ⟨b0, b1, e, h0.grew g⟩
  | _, _ + 4, _, _, _, _, _ => True.intro
theorem rgWi_lt {W : World} {g n c c2 : Nat} {id : Int} : ∀ vs j v w, ([] : List Nat).contains j = true → rgWi W g n c c2 id vs j v w → ∀ g, leadsTo v = some g → g < w.heap.size
  | _, 0, _, _, hc, _ => by simp at hc
  | _, 1, _, _, hc, _ => by simp at hc
  | _, 2, _, _, hc, _ => by simp at hc
  | _, 3, _, _, hc, _ => by simp at hc
  | _, _ + 4, _, _, hc, _ => by simp at hc
theorem rgWi_loc {W : World} {g n c c2 : Nat} {id : Int} : ∀ (vs vs' : Nat → Value) j v w, (∀ k ∈ ([[], [], [], []] : List (List Nat)).getD j [], vs k = vs' k) → rgWi W g n c c2 id vs j v w → rgWi W g n c c2 id vs' j v w
  | _, _, 0, _, _, _, h => h
  | _, _, 1, _, _, _, h => h
  | _, _, 2, _, _, _, h => h
  | _, _, 3, _, _, _, h => h
  | _, _, _ + 4, _, _, _, _ => True.intro
theorem lay_with {xs : List Int} (id : Int) (h : 12 ≤ xs.length) : lay xs 0 ((putL id 2 true).take xs.length) = withV xs id := by
  rw [List.take_of_length_le (by rw [putB_len]; omega), putL_two21]
  unfold withV lay
  rw [if_neg (by omega)]
  match xs, h with
  | x :: y :: r, _ => simp
theorem withV_ok {xs : List Int} (h : AreBytes xs) (id : Int) : AreBytes (withV xs id) := by
  unfold withV
  split
  · exact h
  · intro z hz
    rcases List.mem_or_eq_of_mem_set hz with hz | rfl
    · rcases List.mem_or_eq_of_mem_set hz with hz | rfl
      · exact h z hz
      · omega
    · omega
set_option maxHeartbeats 2000000 in
theorem With21_c {v : Value} {xs : List Int} (id : Int) (hl : xs.length ≤ 70000) {w : World} (hb : Buf w v xs) :
    Calls Tryd.prog 12 #[v, .int .i64 id] w fun e w' => ∃ u, e = .returned u ∧ Buf w' u (withV xs id) ∧ Grew w w' := by
  have HCL := Lib.hid (cloneB_c (by omega) hb)
  have HO := Lib.hid hb.ok
  by_cases k0 : 12 ≤ xs.length
  · have HLW := Lib.hid (lay_with id k0)
    have HWO := Lib.hid (withV_ok HO.out id)
    generalize withV xs id = OUT at *
    clear hb
    go_enter Tryd.func12, Tryd.ntmps12
    go_wp2_with fail
    refine HCL.out.mono ?_
    rintro e w1 ⟨a, c, rfl, hrow, hbuf, g1⟩
    obtain ⟨g, hag, hge⟩ : ∃ g, a = some ⟨g, 0, none⟩ ∧ w.heap.size ≤ g := by
      rcases hrow.2 with ⟨e1, e2⟩ | ⟨g', cap, L, e, hbg, _⟩
      · simp only [Value.slice.injEq] at e1; omega
      · simp only [Value.slice.injEq] at e
        exact ⟨g', e.1, hbg⟩
    subst hag
    obtain ⟨a', c2, hcut, s1, s2, s3, hrun⟩ := hbuf.run_cut (lo := 0) (hi := xs.length) (by omega) (Nat.le_refl _)
    obtain ⟨n, hn⟩ : ∃ n, n = xs.length := ⟨_, rfl⟩
    rw [← hn] at s1 hrun k0 hl ⊢
    obtain rfl := s1 (by omega)
    have hh := fun w => hasHead_c (some ⟨g, 0, none⟩) n c w
    rw [decide_eq_true k0] at hh
    have HH := Lib.hid hh
    clear hh
    have HCUT := Lib.hid (show ∀ w', (Instr.sliceAt 22 (.slice (some ⟨g, 0, none⟩) n c) (some (.int .i64 0)) none none).run Tryd.prog w' = .ok (.slice (some ⟨g, 0, none⟩) n c2) w' from fun w' => by have := hrun rfl .i64 w'; simpa [Addr.add] using this)
    have HROW := Lib.hid hrow
    rw [← hn] at HROW HLW
    have HN := Lib.hid hn
    clear s1 s2 s3 hrun hcut hrow hbuf hn HCL
    go_wp2_with fail
    refine (HH.out _).mono ?_
    rintro e wx ⟨rfl, h9⟩
    obtain rfl := h9.symm
    go_upto_region 3 with fail
    refine region_deps 4 [some 10, some 11, some 12, some 13] [[], [], [], []] [] (rgWi w1 g n c c2 id) rgWi_grew rgWi_lt rgWi_loc (Grew.refl w1) (by kernel_rfl) (by kernel_rfl) ?_ ?_
    · simp only [List.take_succ_cons, List.take_zero]
      refine GivesAll.cons (fun vs w1 g1 hd K hK => ?_) ?_
      · simp only [putsT, Nat.zero_add, Nat.reduceAdd, List.getD_cons_zero, List.getD_cons_succ, Act.put, List.setIfInBounds_toArray, List.set_cons_zero, List.set_cons_succ] at hK ⊢
        go_simp
        exact hK _ _ (Grew.refl _) rfl (fun h => by simp at h)
      refine GivesAll.cons (fun vs w1 g1 hd K hK => ?_) ?_
      · have e0 : vs 0 = .slice (some ⟨g, 0, none⟩) n c := hd 0 (by kernel_rfl)
        simp only [putsT, Nat.zero_add, Nat.reduceAdd, List.getD_cons_zero, List.getD_cons_succ, Act.put, List.setIfInBounds_toArray, List.set_cons_zero, List.set_cons_succ, e0] at hK ⊢
        have hr := HCUT.out
        go_simp
        exact hK _ _ (Grew.refl _) rfl (fun h => by simp at h)
      refine GivesAll.cons (fun vs w1 g1 hd K hK => ?_) ?_
      · simp only [putsT, Nat.zero_add, Nat.reduceAdd, List.getD_cons_zero, List.getD_cons_succ, Act.put, List.setIfInBounds_toArray, List.set_cons_zero, List.set_cons_succ] at hK ⊢
        go_simp
        exact hK _ _ (Grew.refl _) rfl (fun h => by simp at h)
      refine GivesAll.cons (fun vs w1 g1 hd K hK => ?_) ?_
      · have e2 : vs 2 = .int .i64 id := hd 2 (by kernel_rfl)
        simp only [putsT, Nat.zero_add, Nat.reduceAdd, List.getD_cons_zero, List.getD_cons_succ, Act.put, List.setIfInBounds_toArray, List.set_cons_zero, List.set_cons_succ, e2] at hK ⊢
        go_simp
        refine Calls.mono (pair_c id w1) ?_
        rintro e w5 ⟨a, c, rfl, hb, g5⟩
        exact hK _ _ g5 ⟨_, _, rfl, hb⟩ (fun h => by simp at h)
      exact GivesAll.nil
    intro vs wz gz hv hap
    have e0 : vs 0 = .slice (some ⟨g, 0, none⟩) n c := hv 0 (by decide)
    have e1 : vs 1 = .slice (some ⟨g, 0, none⟩) n c2 := hv 1 (by decide)
    have e2 : vs 2 = .int .i64 id := hv 2 (by decide)
    obtain ⟨a_3, c_3, e3, r3_0⟩ := hv 3 (by decide)
    clear hv hap
    simp only [putsT, Nat.zero_add, Nat.reduceAdd, List.getD_cons_zero, List.getD_cons_succ, Act.put, List.setIfInBounds_toArray, List.set_cons_zero, List.set_cons_succ, List.drop_succ_cons, List.drop_zero, e0, e1, e2, e3]
    clear e0 e1 e2 e3
    go_upto_region 4 with (refine wpList_copy_b (W := w) rfl (.tmp 11) (.tmp 13) rfl (g1.trans gz) (HROW.out.grew gz) rfl r3_0 (by rfl) 0 (some ⟨g, 0, none⟩) n c2 (by rfl) (fun _ => rfl) (by rw [HN.out]; omega) ?_; intro w9 R9 g9 o9; generalize goInt ((((putL id 2 true).take n).length : Nat) : Int) = gi)
    have R8 : Hid (Row w9 w.heap.size (.slice (some ⟨g, 0, none⟩) n c) OUT) := Lib.hid (by have h9 := R9.out; rwa [HLW.out] at h9)
    clear R9 o9 r3_0
    go_wp2_with fail
    go_ret
    exact ⟨_, rfl, R8.out.buf HWO.out, g9⟩
  · have e : withV xs id = xs := by unfold withV; rw [if_pos (by omega)]
    rw [e]
    clear hb e
    go_enter Tryd.func12, Tryd.ntmps12
    go_wp2_with fail
    refine HCL.out.mono ?_
    rintro e w1 ⟨a, c, rfl, hrow, hbuf, g1⟩
    have hh := fun w => hasHead_c a xs.length c w
    rw [decide_eq_false k0] at hh
    have HH := Lib.hid hh
    have HBU := Lib.hid hbuf
    clear hh hrow hbuf
    go_wp2_with fail
    refine (HH.out _).mono ?_
    rintro e wx ⟨rfl, h9⟩
    obtain rfl := h9.symm
    go_wp2_with fail
    go_ret
    exact ⟨_, rfl, HBU.out, g1⟩
theorem pairAtG_c {v : Value} {xs : List Int} (K : Int) (k k2 : Nat) (hK : K = k) (hk2 : k2 = k + 2) (hk : k2 ≤ xs.length) (w : World) (hb : Buf w v xs) :
    Calls Tryd.prog 26 #[v, .int .i64 K] w fun e w' => e = .returned (.int .i64 (getV (cutL xs k k2) true)) ∧ Grew w w' :=
  (pairAt_c K k k2 hK hk2 hk w hb).mono fun _ _ ⟨h1, h2⟩ => ⟨h1, by rw [h2]; exact Grew.refl _⟩
theorem or33152 (c : Int) (h : 0 ≤ c ∧ c < 16) : bits .or .i64 33152 c = 33152 + c := by
  show IntKind.i64.wrap ((BitVec.ofInt 64 33152 ||| BitVec.ofInt 64 c).toNat : Int) = _
  obtain ⟨n, rfl⟩ := Int.eq_ofNat_of_zero_le h.1
  have h2 : n < 16 := by omega
  have key : ∀ m : Fin 16, ((BitVec.ofInt 64 33152 ||| BitVec.ofInt 64 (m.val : Int)).toNat) = 33152 + m.val := by decide
  rw [key ⟨n, h2⟩]
  show IntKind.i64.wrap ((33152 + n : Nat) : Int) = 33152 + (n : Int)
  rw [IntWalk.i64_in _ (by omega)]
  omega
theorem fail21_0 {v : Value} (code : Int) (S : ByteArray) (kd en E : Int) {w : World} (hq : Calls Tryd.prog 23 #[v] w fun e w' => ∃ n s, e = .returned (.tuple #[.agg #[.string S, .int .i64 kd, .int .i64 en], .iface 62 (.agg #[.int .i64 E, .int .i64 n, .string s])]) ∧ Grew w w') :
    Calls Tryd.prog 14 #[v, .int .i64 code] w fun e w' => e = .returned (.tuple #[.slice none 0 0, .bool false]) ∧ Grew w w' := by
  have HQ := Lib.hid hq
  clear hq
  go_enter Tryd.func14, Tryd.ntmps14
  go_wp2_with fail
  refine HQ.out.mono ?_
  rintro e w1 ⟨n1, s1, rfl, g1⟩
  go_upto_region 2 with fail
  have hQ : Blk (w1.alloc (.cells #[.string S, .int .i64 kd, .int .i64 en] 49)) w1.heap.size #[.string S, .int .i64 kd, .int .i64 en] 49 := Blk.new _ _ _ _ rfl
  have g2 : Grew w1 (w1.alloc (.cells #[.string S, .int .i64 kd, .int .i64 en] 49)) := (Grew.refl _).alloc _
  generalize (w1.alloc (.cells #[.string S, .int .i64 kd, .int .i64 en] 49)) = w2 at *
  generalize hlQ : w1.heap.size = Q at *
  have G2 := g1.trans g2
  go_wp2_with fail
  go_ret2
  exact ⟨rfl, G2⟩
theorem fail21_1 {v : Value} {xs : List Int} (code : Int) (S : ByteArray) (kd en : Int) (hy : qyV xs = false) {w : World} (hb : Buf w v xs) (hq : Calls Tryd.prog 23 #[v] w fun e w' => e = .returned (.tuple #[.agg #[.string S, .int .i64 kd, .int .i64 en], .nilIface]) ∧ Grew w w') :
    Calls Tryd.prog 14 #[v, .int .i64 code] w fun e w' => e = .returned (.tuple #[.slice none 0 0, .bool false]) ∧ Grew w w' := by
  have HQ := Lib.hid hq
  have HY := Lib.hid (fun w' (g : Grew w w') => Query21_c (hb.grew g))
  rw [hy] at HY
  clear hq hb hy
  go_enter Tryd.func14, Tryd.ntmps14
  go_wp2_with fail
  refine HQ.out.mono ?_
  rintro e w1 ⟨rfl, g1⟩
  go_upto_region 2 with fail
  have hQ : Blk (w1.alloc (.cells #[.string S, .int .i64 kd, .int .i64 en] 49)) w1.heap.size #[.string S, .int .i64 kd, .int .i64 en] 49 := Blk.new _ _ _ _ rfl
  have g2 : Grew w1 (w1.alloc (.cells #[.string S, .int .i64 kd, .int .i64 en] 49)) := (Grew.refl _).alloc _
  generalize (w1.alloc (.cells #[.string S, .int .i64 kd, .int .i64 en] 49)) = w2 at *
  generalize hlQ : w1.heap.size = Q at *
  have G2 := g1.trans g2
  go_wp2_with fail
  refine (HY.out _ G2).mono ?_
  rintro e w3 ⟨rfl, g3⟩
  go_wp2_with fail
  go_ret2
  exact ⟨rfl, G2.trans g3⟩
set_option maxHeartbeats 2000000 in
theorem fail21_yes {a : Option Addr} {n c : Nat} {xs : List Int} (code : Int) (S : ByteArray) (kd : Int) (en : Nat) (h12 : 12 ≤ en) (hen : en ≤ xs.length) (hl : xs.length ≤ 70000) (hqe : (qsV xs).2.2.1 = (en : Int)) (hy : qyV xs = true) {w : World} (hb : Buf w (.slice a n c) xs) (hq : Calls Tryd.prog 23 #[.slice a n c] w fun e w' => e = .returned (.tuple #[.agg #[.string S, .int .i64 kd, .int .i64 (en : Int)], .nilIface]) ∧ Grew w w') :
    Calls Tryd.prog 14 #[.slice a n c, .int .i64 code] w fun e w' => ∃ u, e = .returned (.tuple #[u, .bool true]) ∧ Buf w' u (failW xs code) ∧ Grew w w' := by
  have HQ := Lib.hid hq
  have HY := Lib.hid (fun w' (g : Grew w w') => Query21_c (hb.grew g))
  rw [hy] at HY
  have hn := hb.lenEq.1
  have HB := Lib.hid hb
  have HL2 := Lib.hid (show 2 ≤ xs.length by omega)
  have EA := Lib.hid (and15 code)
  have EO := Lib.hid (or33152 (code % 16) (by omega))
  obtain ⟨sa, sc, hcut, x1, hrun, x3, x4⟩ := hb.run_cut (lo := 12) (hi := en) h12 hen
  have HRUN := Lib.hid (show ∀ w', (Instr.sliceAt 22 (.slice a n c) (some (.int .i64 12)) (some (.int .i64 (en : Int))) none).run Tryd.prog w' = .ok (.slice sa (en - 12) sc) w' from hrun .i64 .i64)
  have HS := Lib.hid hcut
  have hz : getV (cutL xs 0 2) true = xs.getD 1 0 + xs.getD 0 0 * 256 := getV_cut (k := 0) (by omega)
  have b0 := hb.ok.getD 0
  have b1 := hb.ok.getD 1
  have HFL := Lib.hid (show [headD (getV (cutL xs 0 2) true) (33152 + code % 16), cutL xs 12 en].flatten = failW xs code by
    unfold failW headD
    rw [hqe, Int.toNat_natCast, putL_two21, putL_two21, hz]
    have e1 : (xs.getD 1 0 + xs.getD 0 0 * 256) / 256 % 256 = xs.getD 0 0 := by omega
    have e2 : (xs.getD 1 0 + xs.getD 0 0 * 256) % 256 = xs.getD 1 0 := by omega
    have e3 : (33152 + code % 16) / 256 % 256 = 129 := by omega
    have e4 : (33152 + code % 16) % 256 = 128 + code % 16 := by omega
    rw [e1, e2, e3, e4]
    simp [List.replicate])
  have HLN := Lib.hid (show [headD (getV (cutL xs 0 2) true) (33152 + code % 16), cutL xs 12 en].flatten.length ≤ 140737488355328 by
    simp only [List.flatten_cons, List.flatten_nil, List.length_append, headD_len, List.length_nil, cutL_length h12 hen]
    omega)
  clear hq hb hy hcut x1 hrun x3 x4 hz b0 b1 hqe hn
  obtain ⟨idv, hid⟩ : ∃ idv, idv = getV (cutL xs 0 2) true := ⟨_, rfl⟩
  rw [← hid] at HFL HLN
  have HID := Lib.hid hid
  clear hid
  generalize failW xs code = OUT at *
  go_enter Tryd.func14, Tryd.ntmps14
  go_wp2_with fail
  refine HQ.out.mono ?_
  rintro e w1 ⟨rfl, g1⟩
  go_upto_region 2 with fail
  have hQ : Blk (w1.alloc (.cells #[.string S, .int .i64 kd, .int .i64 (en : Int)] 49)) w1.heap.size #[.string S, .int .i64 kd, .int .i64 (en : Int)] 49 := Blk.new _ _ _ _ rfl
  have g2 : Grew w1 (w1.alloc (.cells #[.string S, .int .i64 kd, .int .i64 (en : Int)] 49)) := (Grew.refl _).alloc _
  generalize (w1.alloc (.cells #[.string S, .int .i64 kd, .int .i64 (en : Int)] 49)) = w2 at *
  generalize hlQ : w1.heap.size = Q at *
  have G2 := g1.trans g2
  go_wp2_with fail
  refine (HY.out _ G2).mono ?_
  rintro e w3 ⟨rfl, g3⟩
  have hQ3 := hQ.grew g3
  have G3 := G2.trans g3
  clear hQ G2 g3 g1 g2
  go_upto_region 4 with fail
  have hst := (Grew.refl w3).drew1
  refine wp_region_held_drew (S := fun w' => Grew w3 w') (by kernel_rfl) (by exact hst) (fun hHeld => ?_)
  replace hHeld : Grew w3 w3.drew := hHeld
  generalize w3.drew = wq7 at *
  refine wpAnyH_take (i := 0) (v := ?_) rfl (by kernel_rfl) (by kernel_rfl) (by kernel_rfl) (fun _ _ _ h => h) (Or.inl ⟨by rfl, ?_⟩) hHeld ?_
  rotate_left
  · intro wq hSw
    replace hSw : Grew w3 wq := hSw
    go_simp
    try with_reducible rfl
  try simp only [List.getElem_toArray, List.getElem_cons_succ, List.getElem_cons_zero, Act.put, List.setIfInBounds_toArray, List.set_cons_zero, List.set_cons_succ]
  refine wpAnyH_take (i := 2) (v := ?_) rfl (by kernel_rfl) (by kernel_rfl) (by kernel_rfl) (fun _ _ _ h => h) (Or.inl ⟨by rfl, ?_⟩) hHeld ?_
  rotate_left
  · intro wq hSw
    replace hSw : Grew w3 wq := hSw
    go_simp
    try with_reducible rfl
  try simp only [List.getElem_toArray, List.getElem_cons_succ, List.getElem_cons_zero, Act.put, List.setIfInBounds_toArray, List.set_cons_zero, List.set_cons_succ]
  refine wpAnyH_take (i := 3) (v := ?_) rfl (by kernel_rfl) (by kernel_rfl) (by kernel_rfl) (fun _ _ _ h => h) (Or.inl ⟨by rfl, ?_⟩) hHeld ?_
  rotate_left
  · intro wq hSw
    replace hSw : Grew w3 wq := hSw
    have ea := EA.out
    go_simp
    try with_reducible rfl
  try simp only [List.getElem_toArray, List.getElem_cons_succ, List.getElem_cons_zero, Act.put, List.setIfInBounds_toArray, List.set_cons_zero, List.set_cons_succ]
  refine wpAnyH_take (i := 4) (v := ?_) rfl (by kernel_rfl) (by kernel_rfl) (by kernel_rfl) (fun _ _ _ h => h) (Or.inl ⟨by rfl, ?_⟩) hHeld ?_
  rotate_left
  · intro wq hSw
    replace hSw : Grew w3 wq := hSw
    have eo := EO.out
    go_simp
    try with_reducible rfl
  try simp only [List.getElem_toArray, List.getElem_cons_succ, List.getElem_cons_zero, Act.put, List.setIfInBounds_toArray, List.set_cons_zero, List.set_cons_succ]
  refine wpAnyH_take (i := 6) (v := ?_) rfl (by kernel_rfl) (by kernel_rfl) (by kernel_rfl) (fun _ _ _ h => h) (Or.inl ⟨by rfl, ?_⟩) hHeld ?_
  rotate_left
  · intro wq hSw
    replace hSw : Grew w3 wq := hSw
    go_simp
    try with_reducible rfl
  try simp only [List.getElem_toArray, List.getElem_cons_succ, List.getElem_cons_zero, Act.put, List.setIfInBounds_toArray, List.set_cons_zero, List.set_cons_succ]
  refine wpAnyH_take (i := 7) (v := ?_) rfl (by kernel_rfl) (by kernel_rfl) (by kernel_rfl) (fun _ _ _ h => h) (Or.inl ⟨by rfl, ?_⟩) hHeld ?_
  rotate_left
  · intro wq hSw
    replace hSw : Grew w3 wq := hSw
    go_simp
    try with_reducible rfl
  try simp only [List.getElem_toArray, List.getElem_cons_succ, List.getElem_cons_zero, Act.put, List.setIfInBounds_toArray, List.set_cons_zero, List.set_cons_succ]
  refine wpAnyH_take (i := 8) (v := ?_) rfl (by kernel_rfl) (by kernel_rfl) (by kernel_rfl) (fun _ _ _ h => h) (Or.inl ⟨by rfl, ?_⟩) hHeld ?_
  rotate_left
  · intro wq hSw
    replace hSw : Grew w3 wq := hSw
    have y2 := (hQ3.grew hSw).cell 2
    go_simp
    try with_reducible rfl
  try simp only [List.getElem_toArray, List.getElem_cons_succ, List.getElem_cons_zero, Act.put, List.setIfInBounds_toArray, List.set_cons_zero, List.set_cons_succ]
  refine wpAnyH_take (i := 9) (v := ?_) rfl (by kernel_rfl) (by kernel_rfl) (by kernel_rfl) (fun _ _ _ h => h) (Or.inl ⟨by rfl, ?_⟩) hHeld ?_
  rotate_left
  · intro wq hSw
    replace hSw : Grew w3 wq := hSw
    have hr := HRUN.out
    go_simp
    try with_reducible rfl
  try simp only [List.getElem_toArray, List.getElem_cons_succ, List.getElem_cons_zero, Act.put, List.setIfInBounds_toArray, List.set_cons_zero, List.set_cons_succ]
  refine wpAnyH_ready (rs := [1]) (by kernel_rfl) (by simp) ?_
  refine AllReadyH.cons rfl (fun K hK => ?_) AllReadyH.nil
  go_simp
  refine ((show Calls _ _ _ _ _ from by have := pairAtG_c 0 0 2 rfl rfl HL2.out wq7 (HB.out.grew (G3.trans hHeld)); rwa [← HID.out] at this)).mono ?_
  rintro e wk8 ⟨rfl, gk8⟩
  refine hK.out _ _ (hHeld.trans gk8) (fun hHeld => ?_)
  clear hK K
  try simp only [List.getElem_toArray, List.getElem_cons_succ, List.getElem_cons_zero, Act.put, List.setIfInBounds_toArray, List.set_cons_zero, List.set_cons_succ]
  refine wpAnyH_ready (rs := [5]) (by kernel_rfl) (by simp) ?_
  refine AllReadyH.cons rfl (fun K hK => ?_) AllReadyH.nil
  go_simp
  refine (headOf_c idv (33152 + code % 16) wk8).mono ?_
  rintro e wk9 ⟨ha, hc, rfl, HH, gk9⟩
  replace HH := Lib.hid HH
  refine hK.out _ _ (hHeld.trans gk9) (fun hHeld => ?_)
  clear hK K
  try simp only [List.getElem_toArray, List.getElem_cons_succ, List.getElem_cons_zero, Act.put, List.setIfInBounds_toArray, List.set_cons_zero, List.set_cons_succ]
  refine wpAnyH_ready (rs := [10]) (by kernel_rfl) (by simp) ?_
  refine AllReadyH.cons rfl (fun K hK => ?_) AllReadyH.nil
  go_simp
  have HL := Bufs.ofBlk (Blk.new wk9 #[.slice ha 12 hc, .slice sa (en - 12) sc] 22 _ rfl) [headD idv (33152 + code % 16), cutL xs 12 en] 2 2 rfl (by unfold maxLen; simp) (fun i hi => by
    match i, hi with
    | 0, _ => exact ⟨_, rfl, (HH.out).grew ((Grew.refl wk9).alloc _)⟩
    | 1, _ => exact ⟨_, rfl, (HS.out.grew (G3.trans hHeld)).grew ((Grew.refl wk9).alloc _)⟩)
  have gk10 : Grew wk9 (wk9.alloc (.cells #[.slice ha 12 hc, .slice sa (en - 12) sc] 22)) := (Grew.refl _).alloc _
  replace HL := Lib.hid HL
  replace HH := Lib.hid (HH.out.grew gk10)
  generalize (wk9.alloc (.cells #[.slice ha 12 hc, .slice sa (en - 12) sc] 22)) = wk10 at *
  generalize wk9.heap.size = Qwk10 at *
  refine hK.out _ _ (hHeld.trans gk10) (fun hHeld => ?_)
  clear hK K
  try simp only [List.getElem_toArray, List.getElem_cons_succ, List.getElem_cons_zero, Act.put, List.setIfInBounds_toArray, List.set_cons_zero, List.set_cons_succ]
  refine wpAnyH_ready (rs := [11]) (by kernel_rfl) (by simp) ?_
  refine AllReadyH.cons rfl (fun K hK => ?_) AllReadyH.nil
  go_simp
  refine (concat_b wk10 HL.out HLN.out).mono ?_
  rintro e wk11 ⟨u, rfl, hrow, HC, gk11⟩
  rw [HFL.out] at HC
  clear hrow
  replace HC := Lib.hid HC
  replace HH := Lib.hid (HH.out.grew gk11)
  replace HL := Lib.hid (HL.out.grew gk11)
  refine hK.out _ _ (hHeld.trans gk11) (fun hHeld => ?_)
  clear hK K
  try simp only [List.getElem_toArray, List.getElem_cons_succ, List.getElem_cons_zero, Act.put, List.setIfInBounds_toArray, List.set_cons_zero, List.set_cons_succ]
  refine wpAnyH_take (i := 12) (v := ?_) rfl (by kernel_rfl) (by kernel_rfl) (by kernel_rfl) (fun _ _ _ h => h) (Or.inl ⟨by rfl, ?_⟩) hHeld ?_
  rotate_left
  · intro wq hSw
    replace hSw : Grew w3 wq := hSw
    go_simp
    try with_reducible rfl
  try simp only [List.getElem_toArray, List.getElem_cons_succ, List.getElem_cons_zero, Act.put, List.setIfInBounds_toArray, List.set_cons_zero, List.set_cons_succ]
  refine wpAnyH_take (i := 13) (v := ?_) rfl (by kernel_rfl) (by kernel_rfl) (by kernel_rfl) (fun _ _ _ h => h) (Or.inl ⟨by rfl, ?_⟩) hHeld ?_
  rotate_left
  · intro wq hSw
    replace hSw : Grew w3 wq := hSw
    go_simp
    try with_reducible rfl
  try simp only [List.getElem_toArray, List.getElem_cons_succ, List.getElem_cons_zero, Act.put, List.setIfInBounds_toArray, List.set_cons_zero, List.set_cons_succ]
  refine wpAnyH_done (by kernel_rfl) ?_ _
  try simp only [List.getElem_toArray, List.getElem_cons_succ, List.getElem_cons_zero, Act.put, List.setIfInBounds_toArray, List.set_cons_zero, List.set_cons_succ]
  go_wp2_with fail
  go_ret2
  exact ⟨_, rfl, HC.out, G3.trans hHeld⟩
theorem Fail21_c {v : Value} {xs : List Int} (code : Int) (hl : xs.length ≤ 70000) {w : World} (hb : Buf w v xs) :
    Calls Tryd.prog 14 #[v, .int .i64 code] w fun e w' => ∃ u, e = .returned (.tuple #[u, .bool (failOk xs)]) ∧ Buf w' u (failV xs code) ∧ Grew w w' := by
  have no : failOk xs = false → (Calls Tryd.prog 14 #[v, .int .i64 code] w fun e w' => e = .returned (.tuple #[.slice none 0 0, .bool false]) ∧ Grew w w') → Calls Tryd.prog 14 #[v, .int .i64 code] w fun e w' => ∃ u, e = .returned (.tuple #[u, .bool (failOk xs)]) ∧ Buf w' u (failV xs code) ∧ Grew w w' := fun h hc => by
    unfold failV
    rw [h]
    exact hc.mono fun _ _ ⟨he, g⟩ => ⟨_, he, Buf.nil _, g⟩
  have hq := questionIn_c (by omega) hb
  by_cases h0 : (qsV xs).2.2.2 = 0
  · have hq0 := hq.mono (R' := fun e w' => e = .returned (.tuple #[.agg #[.string (strOfNums (qsV xs).1), .int .i64 (qsV xs).2.1, .int .i64 (qsV xs).2.2.1], .nilIface]) ∧ Grew w w') (fun e w' ⟨u, he, hu, g⟩ => by
      rcases hu with ⟨_, rfl⟩ | ⟨h1, _⟩
      · exact ⟨he, g⟩
      · exact absurd h0 h1)
    cases hy : qyV xs
    · exact no (by unfold failOk; rw [hy, Bool.and_false]) (fail21_1 code _ _ _ hy hb hq0)
    · have hok : failOk xs = true := by unfold failOk; rw [hy, h0]; rfl
      unfold failV
      rw [hok]
      obtain ⟨a, c, rfl, _, _⟩ := hb.shape
      have hee := qsV_end h0
      obtain ⟨en, hen⟩ : ∃ en : Nat, (qsV xs).2.2.1 = (en : Int) := ⟨(qsV xs).2.2.1.toNat, by omega⟩
      rw [hen] at hq0 hee
      exact fail21_yes code _ _ en (by omega) (by omega) hl hen hy hb hq0
  · exact no (by unfold failOk; rw [beq_eq_false_iff_ne.2 h0, Bool.false_and]) (fail21_0 code _ _ _ _ (hq.mono fun e w' ⟨u, he, hu, g⟩ => by
      rcases hu with ⟨h1, _⟩ | ⟨_, n, s, rfl⟩
      · exact absurd h1 h0
      · exact ⟨n, s, he, g⟩))
theorem question21_c : QuestionC := fun hl sn hb => Question21_c hl sn hb
theorem ask21_c : AskC := fun id kind _ _ _ hxo hl _ => Ask21_c id kind hxo hl _
theorem id21_c : IdC := fun _ hb => Id21_c hb
theorem with21_c : WithC := fun id _ _ hl hb => With21_c id hl hb
theorem query21_c : QueryC := fun _ hb => Query21_c hb
theorem fail21_c : FailC := fun code _ _ hl _ hb => Fail21_c code hl hb
end Go.Proofs.YtnafdgpkofffaaaDoor
