/-
  Package dhcp: options written, by a function that is made for the map.
-/
import Derived.Test.YtnmffkmpkgmkpaaDhB
import Derived.Test.YtnmffkmpkgmkpaaDeps
set_option maxRecDepth 4000
set_option linter.unusedVariables false
set_option linter.unusedSimpArgs false
namespace Go.Proofs.Ytnmffkmpkgmkpaa
open Go.RowKit

/-- The bytes of one option; none of 0. -/
def wrV (k : Int) (s : Nat) (x : Int) : List Int := if x = 0 then [] else [k, (s : Int)] ++ putL x s true
def wrTo (f : Int → Option Int) : Nat → List Int
  | 0 => []
  | i + 1 => wrTo f i ++ wrV (kN i) (kS i) ((f (kN i)).getD 0)
theorem wrV_len (k : Int) (s : Nat) (x : Int) : (wrV k s x).length ≤ s + 2 := by
  unfold wrV
  split
  · simp
  · simp [putB_len]
theorem kS_le (i : Nat) (hi : i < 7) : kS i ≤ 4 := by match i, hi with | 0, _ | 1, _ | 2, _ | 3, _ | 4, _ | 5, _ | 6, _ => decide
theorem kN_ok (i : Nat) (hi : i < 7) : 0 ≤ kN i ∧ kN i < 256 := by match i, hi with | 0, _ | 1, _ | 2, _ | 3, _ | 4, _ | 5, _ | 6, _ => decide
theorem wrTo_len (f : Int → Option Int) : ∀ k, k ≤ 7 → (wrTo f k).length ≤ 6 * k
  | 0, _ => by simp [wrTo]
  | k + 1, h => by
    have := wrTo_len f k (by omega)
    have h2 := wrV_len (kN k) (kS k) ((f (kN k)).getD 0)
    have h3 := kS_le k (by omega)
    rw [wrTo, List.length_append]
    omega
theorem wrV_ok {k : Int} {s : Nat} (x : Int) (hk : 0 ≤ k ∧ k < 256) (hs : s ≤ 8) : AreBytes (wrV k s x) := by
  unfold wrV
  split
  · intro z hz; simp at hz
  · exact (bytes_lit' hk (by omega)).app (putB_ok _ _ _)
theorem wrTo_ok (f : Int → Option Int) : ∀ k, k ≤ 7 → AreBytes (wrTo f k)
  | 0, _ => by intro z hz; simp [wrTo] at hz
  | k + 1, h => by
    rw [wrTo]
    exact (wrTo_ok f k (by omega)).app (wrV_ok _ (kN_ok k (by omega)) (by have := kS_le k (by omega); omega))
theorem wrTo_opF {d : DHR} (h1 : 1 ≤ d.ty) (h8 : d.ty ≤ 8) : wrTo (opF d) 7 = osDH d := by
  have e1 : putL d.ty 1 true = [d.ty] := by
    simp [putL, placeV, byteV]
    omega
  have e0 : ¬ d.ty = 0 := by omega
  simp [wrTo, wrV, kN, kS, opF, updI, osDH, opDH, e1, e0]
/-- What the operations of a region give. -/
def rgWr (W : World) (B : Nat) (k : Int) (s : Nat) (x : Int) : (Nat → Value) → Nat → Value → World → Prop
  | _, 0, v, _ => v = .pointer (some ⟨B, 0, none⟩)
  | _, 1, v, _ => v = .int .u8 k
  | _, 2, v, _ => v = .pointer (some ⟨B, 1, none⟩)
  | _, 3, v, _ => v = .int .i64 (s : Nat)
  | _, 4, v, _ => v = .int .u8 (s : Nat)
  | _, 5, v, w => ∃ b0, v = .slice (some ⟨b0, 0, none⟩) 2 2 ∧ Row w W.heap.size (.slice (some ⟨b0, 0, none⟩) 2 2) [k, (s : Int)]
  | _, 6, v, _ => v = .int .u32 x
  | _, 7, v, _ => v = .int .u64 x
  | _, 8, v, _ => v = .pointer (some ⟨B, 1, none⟩)
  | _, 9, v, _ => v = .int .i64 (s : Nat)
  | _, 10, v, w => ∃ a c, v = .slice a s c ∧ Buf w (.slice a s c) (putL x s true)
  | _, _, _, _ => True
theorem rgWr_grew {W : World} {B : Nat} {k : Int} {s : Nat} {x : Int} : ∀ vs j v w w', Grew w w' → rgWr W B k s x vs j v w → rgWr W B k s x vs j v w'
  | _, 0, _, _, _, _, h => h
  | _, 1, _, _, _, _, h => h
  | _, 2, _, _, _, _, h => h
  | _, 3, _, _, _, _, h => h
  | _, 4, _, _, _, _, h => h
  | _, 5, _, _, _, g, ⟨b0, e, h0⟩ => ⟨b0, e, h0.grew g⟩
  | _, 6, _, _, _, _, h => h
  | _, 7, _, _, _, _, h => h
  | _, 8, _, _, _, _, h => h
  | _, 9, _, _, _, _, h => h
  | _, 10, _, _, _, g, ⟨b0, b1, e, h0⟩ => ⟨b0, b1, e, h0.grew g⟩
  | _, _ + 11, _, _, _, _, _ => True.intro
theorem rgWr_lt {W : World} {B : Nat} {k : Int} {s : Nat} {x : Int} : ∀ vs j v w, ([] : List Nat).contains j = true → rgWr W B k s x vs j v w → ∀ g, leadsTo v = some g → g < w.heap.size
  | _, 0, _, _, hc, _ => by simp at hc
  | _, 1, _, _, hc, _ => by simp at hc
  | _, 2, _, _, hc, _ => by simp at hc
  | _, 3, _, _, hc, _ => by simp at hc
  | _, 4, _, _, hc, _ => by simp at hc
  | _, 5, _, _, hc, _ => by simp at hc
  | _, 6, _, _, hc, _ => by simp at hc
  | _, 7, _, _, hc, _ => by simp at hc
  | _, 8, _, _, hc, _ => by simp at hc
  | _, 9, _, _, hc, _ => by simp at hc
  | _, 10, _, _, hc, _ => by simp at hc
  | _, _ + 11, _, _, hc, _ => by simp at hc
theorem rgWr_loc {W : World} {B : Nat} {k : Int} {s : Nat} {x : Int} : ∀ (vs vs' : Nat → Value) j v w, (∀ k ∈ ([[], [], [], [], [], [], [], [], [], [], []] : List (List Nat)).getD j [], vs k = vs' k) → rgWr W B k s x vs j v w → rgWr W B k s x vs' j v w
  | _, _, 0, _, _, _, h => h
  | _, _, 1, _, _, _, h => h
  | _, _, 2, _, _, _, h => h
  | _, _, 3, _, _, _, h => h
  | _, _, 4, _, _, _, h => h
  | _, _, 5, _, _, _, h => h
  | _, _, 6, _, _, _, h => h
  | _, _, 7, _, _, _, h => h
  | _, _, 8, _, _, _, h => h
  | _, _, 9, _, _, _, h => h
  | _, _, 10, _, _, _, h => h
  | _, _, _ + 11, _, _, _, _ => True.intro
theorem wr1_no (k x : Int) (s : Nat) (m : Bool) (hk : 0 ≤ k ∧ k < 256) (hs : s ≤ 8) {b n c : Nat} {f : Int → Option Int} (h0 : x = 0) {w : World} (hI : OM w b n f) (hx : (f k).getD 0 = x) (hc : Blk w c #[.map (some b)] 43) :
    Calls Try.prog 41 #[.agg #[.int .u8 k, .int .i64 (s : Nat), .bool m], .pointer (some ⟨c, 0, none⟩)] w fun e w' => e = .returned (.slice none 0 0) ∧ Grew w w' := by
  subst h0
  have hl0 := OM.lt32 hI k
  rw [hx] at hl0
  have HI := Lib.hid hI
  have hxx := Lib.hid hx
  go_enter Try.func41, Try.ntmps41
  go_upto_region 1 with fail
  have hB0 : Blk (w.alloc (.cells #[.int .u8 k, .int .i64 (s : Nat), .bool m] 71)) w.heap.size #[.int .u8 k, .int .i64 (s : Nat), .bool m] 71 := Blk.new _ _ _ _ rfl
  have g0 : Grew w (w.alloc (.cells #[.int .u8 k, .int .i64 (s : Nat), .bool m] 71)) := (Grew.refl _).alloc _
  generalize (w.alloc (.cells #[.int .u8 k, .int .i64 (s : Nat), .bool m] 71)) = w0 at *
  generalize hlB : w.heap.size = B at *
  have hl := OM.look (IMap.grew HI.out g0) hk.1 hk.2
  rw [hxx.out] at hl
  have yc := (hc.grew g0).cell 0
  have HB := Lib.hid hB0
  have y0 := hB0.cell 0
  have y1 := hB0.cell 1
  clear hB0 hI hx HI hxx
  go_wp2_with fail
  go_ret
  exact ⟨rfl, g0⟩
set_option maxHeartbeats 1000000 in
theorem wr1_yes (k x : Int) (s : Nat) (m : Bool) (hk : 0 ≤ k ∧ k < 256) (hs : s ≤ 8) {b n c : Nat} {f : Int → Option Int} (h0 : (x == 0) = false) {w : World} (hI : OM w b n f) (hx : (f k).getD 0 = x) (hc : Blk w c #[.map (some b)] 43) :
    Calls Try.prog 41 #[.agg #[.int .u8 k, .int .i64 (s : Nat), .bool m], .pointer (some ⟨c, 0, none⟩)] w fun e w' => ∃ u, e = .returned u ∧ Buf w' u ([k, (s : Int)] ++ putL x s true) ∧ Grew w w' := by
  have hl0 := OM.lt32 hI k
  rw [hx] at hl0
  have HI := Lib.hid hI
  have hxx := Lib.hid hx
  go_enter Try.func41, Try.ntmps41
  go_upto_region 1 with fail
  have hB0 : Blk (w.alloc (.cells #[.int .u8 k, .int .i64 (s : Nat), .bool m] 71)) w.heap.size #[.int .u8 k, .int .i64 (s : Nat), .bool m] 71 := Blk.new _ _ _ _ rfl
  have g0 : Grew w (w.alloc (.cells #[.int .u8 k, .int .i64 (s : Nat), .bool m] 71)) := (Grew.refl _).alloc _
  generalize (w.alloc (.cells #[.int .u8 k, .int .i64 (s : Nat), .bool m] 71)) = w0 at *
  generalize hlB : w.heap.size = B at *
  have hl := OM.look (IMap.grew HI.out g0) hk.1 hk.2
  rw [hxx.out] at hl
  have yc := (hc.grew g0).cell 0
  have HB := Lib.hid hB0
  have y0 := hB0.cell 0
  have y1 := hB0.cell 1
  clear hB0 hI hx HI hxx
  have HW8 := Lib.hid (show IntKind.u8.wrap ((s : Nat) : Int) = (s : Nat) from IntWalk.u8_in _ (by omega))
  have HW64 := Lib.hid (show IntKind.u64.wrap x = x from IntWalk.u64_in _ (by omega))
  have HS8 := Lib.hid hs
  have HX0 := Lib.hid (show 0 ≤ x ∧ x < 18446744073709551616 by omega)
  have HOKK := Lib.hid (bytes_lit' hk (show 0 ≤ ((s : Nat) : Int) ∧ ((s : Nat) : Int) < 256 by omega))
  have HG0 := Lib.hid g0
  go_upto_region 4 with fail
  clear y0 y1 yc hl hl0 hk hs g0
  refine region_deps 11 [some 11, some 12, some 13, some 14, some 15, some 16, some 17, some 18, some 19, some 20, some 21] [[], [], [], [], [], [], [], [], [], [], []] [] (rgWr w0 B k s x) rgWr_grew rgWr_lt rgWr_loc (Grew.refl w0) (by kernel_rfl) (by kernel_rfl) ?_ ?_
  · simp only [List.take_succ_cons, List.take_zero]
    refine GivesAll.cons (fun vs w1 g1 hd K hK => ?_) ?_
    · simp only [putsT, Nat.zero_add, Nat.reduceAdd, List.getD_cons_zero, List.getD_cons_succ, Act.put, List.setIfInBounds_toArray, List.set_cons_zero, List.set_cons_succ] at hK ⊢
      go_simp
      exact hK _ _ (Grew.refl _) rfl (fun h => by simp at h)
    refine GivesAll.cons (fun vs w1 g1 hd K hK => ?_) ?_
    · have e0 : vs 0 = .pointer (some ⟨B, 0, none⟩) := hd 0 (by kernel_rfl)
      simp only [putsT, Nat.zero_add, Nat.reduceAdd, List.getD_cons_zero, List.getD_cons_succ, Act.put, List.setIfInBounds_toArray, List.set_cons_zero, List.set_cons_succ, e0] at hK ⊢
      have y0 := (HB.out.grew g1).cell 0
      go_simp
      exact hK _ _ (Grew.refl _) rfl (fun h => by simp at h)
    refine GivesAll.cons (fun vs w1 g1 hd K hK => ?_) ?_
    · simp only [putsT, Nat.zero_add, Nat.reduceAdd, List.getD_cons_zero, List.getD_cons_succ, Act.put, List.setIfInBounds_toArray, List.set_cons_zero, List.set_cons_succ] at hK ⊢
      go_simp
      exact hK _ _ (Grew.refl _) rfl (fun h => by simp at h)
    refine GivesAll.cons (fun vs w1 g1 hd K hK => ?_) ?_
    · have e2 : vs 2 = .pointer (some ⟨B, 1, none⟩) := hd 2 (by kernel_rfl)
      simp only [putsT, Nat.zero_add, Nat.reduceAdd, List.getD_cons_zero, List.getD_cons_succ, Act.put, List.setIfInBounds_toArray, List.set_cons_zero, List.set_cons_succ, e2] at hK ⊢
      have y1 := (HB.out.grew g1).cell 1
      go_simp
      exact hK _ _ (Grew.refl _) rfl (fun h => by simp at h)
    refine GivesAll.cons (fun vs w1 g1 hd K hK => ?_) ?_
    · have e3 : vs 3 = .int .i64 (s : Nat) := hd 3 (by kernel_rfl)
      simp only [putsT, Nat.zero_add, Nat.reduceAdd, List.getD_cons_zero, List.getD_cons_succ, Act.put, List.setIfInBounds_toArray, List.set_cons_zero, List.set_cons_succ, e3] at hK ⊢
      have ew := HW8.out
      go_simp
      exact hK _ _ (Grew.refl _) rfl (fun h => by simp at h)
    refine GivesAll.cons (fun vs w1 g1 hd K hK => ?_) ?_
    · have e1 : vs 1 = .int .u8 k := hd 1 (by kernel_rfl)
      have e4 : vs 4 = .int .u8 (s : Nat) := hd 4 (by kernel_rfl)
      simp only [putsT, Nat.zero_add, Nat.reduceAdd, List.getD_cons_zero, List.getD_cons_succ, Act.put, List.setIfInBounds_toArray, List.set_cons_zero, List.set_cons_succ, e1, e4] at hK ⊢
      go_simp
      exact hK _ _ ((Grew.refl _).alloc _) ⟨_, rfl, Row.lit w1 _ g1.size #[.int .u8 k, .int .u8 (s : Nat)] [k, (s : Int)] rfl (by unfold maxLen; simp) _ rfl 2 rfl⟩ (fun h => by simp at h)
    refine GivesAll.cons (fun vs w1 g1 hd K hK => ?_) ?_
    · simp only [putsT, Nat.zero_add, Nat.reduceAdd, List.getD_cons_zero, List.getD_cons_succ, Act.put, List.setIfInBounds_toArray, List.set_cons_zero, List.set_cons_succ] at hK ⊢
      go_simp
      exact hK _ _ (Grew.refl _) rfl (fun h => by simp at h)
    refine GivesAll.cons (fun vs w1 g1 hd K hK => ?_) ?_
    · have e6 : vs 6 = .int .u32 x := hd 6 (by kernel_rfl)
      simp only [putsT, Nat.zero_add, Nat.reduceAdd, List.getD_cons_zero, List.getD_cons_succ, Act.put, List.setIfInBounds_toArray, List.set_cons_zero, List.set_cons_succ, e6] at hK ⊢
      have ew := HW64.out
      go_simp
      exact hK _ _ (Grew.refl _) rfl (fun h => by simp at h)
    refine GivesAll.cons (fun vs w1 g1 hd K hK => ?_) ?_
    · simp only [putsT, Nat.zero_add, Nat.reduceAdd, List.getD_cons_zero, List.getD_cons_succ, Act.put, List.setIfInBounds_toArray, List.set_cons_zero, List.set_cons_succ] at hK ⊢
      go_simp
      exact hK _ _ (Grew.refl _) rfl (fun h => by simp at h)
    refine GivesAll.cons (fun vs w1 g1 hd K hK => ?_) ?_
    · have e8 : vs 8 = .pointer (some ⟨B, 1, none⟩) := hd 8 (by kernel_rfl)
      simp only [putsT, Nat.zero_add, Nat.reduceAdd, List.getD_cons_zero, List.getD_cons_succ, Act.put, List.setIfInBounds_toArray, List.set_cons_zero, List.set_cons_succ, e8] at hK ⊢
      have y1 := (HB.out.grew g1).cell 1
      go_simp
      exact hK _ _ (Grew.refl _) rfl (fun h => by simp at h)
    refine GivesAll.cons (fun vs w1 g1 hd K hK => ?_) ?_
    · have e7 : vs 7 = .int .u64 x := hd 7 (by kernel_rfl)
      have e9 : vs 9 = .int .i64 (s : Nat) := hd 9 (by kernel_rfl)
      simp only [putsT, Nat.zero_add, Nat.reduceAdd, List.getD_cons_zero, List.getD_cons_succ, Act.put, List.setIfInBounds_toArray, List.set_cons_zero, List.set_cons_succ, e7, e9] at hK ⊢
      go_simp
      refine Calls.mono (putB_c x _ s true (by rfl) HS8.out HX0.out.1 HX0.out.2 w1) ?_
      rintro e w5 ⟨u, rfl, r1, hb, g5⟩
      obtain ⟨a, c, rfl, _, _⟩ := hb.shape
      rw [putB_len] at hb ⊢
      exact hK _ _ g5 ⟨_, _, rfl, hb⟩ (fun h => by simp at h)
    exact GivesAll.nil
  intro vs wz gz hv hap
  have e0 : vs 0 = .pointer (some ⟨B, 0, none⟩) := hv 0 (by decide)
  have e1 : vs 1 = .int .u8 k := hv 1 (by decide)
  have e2 : vs 2 = .pointer (some ⟨B, 1, none⟩) := hv 2 (by decide)
  have e3 : vs 3 = .int .i64 (s : Nat) := hv 3 (by decide)
  have e4 : vs 4 = .int .u8 (s : Nat) := hv 4 (by decide)
  obtain ⟨b0_5, e5, r5_0⟩ := hv 5 (by decide)
  have e6 : vs 6 = .int .u32 x := hv 6 (by decide)
  have e7 : vs 7 = .int .u64 x := hv 7 (by decide)
  have e8 : vs 8 = .pointer (some ⟨B, 1, none⟩) := hv 8 (by decide)
  have e9 : vs 9 = .int .i64 (s : Nat) := hv 9 (by decide)
  obtain ⟨a_10, c_10, e10, r10_0⟩ := hv 10 (by decide)
  clear hv hap
  simp only [putsT, Nat.zero_add, Nat.reduceAdd, List.getD_cons_zero, List.getD_cons_succ, Act.put, List.setIfInBounds_toArray, List.set_cons_zero, List.set_cons_succ, List.drop_succ_cons, List.drop_zero, e0, e1, e2, e3, e4, e5, e6, e7, e8, e9, e10]
  clear e0 e1 e2 e3 e4 e5 e6 e7 e8 e9 e10
  have R5 := Lib.hid r5_0
  have B10 := Lib.hid r10_0
  clear r5_0 r10_0
  go_wp2_with (refine wpList_append_b (W := w0) rfl (.tmp 16) (.tmp 21) rfl gz R5.out B10.out (by rfl) (by rfl) (by have := HS8.out; simp [putB_len]; omega) ?_; intro v9 w9 R9 g9 y9; clear y9)
  go_ret
  exact ⟨_, rfl, R9.out.buf (HOKK.out.app (putB_ok _ _ _)), HG0.out.trans g9⟩
theorem wr1_c (k : Int) (s : Nat) (m : Bool) (hk : 0 ≤ k ∧ k < 256) (hs : s ≤ 8) {b n c : Nat} {f : Int → Option Int} {w : World} (hI : OM w b n f) (hc : Blk w c #[.map (some b)] 43) :
    Calls Try.prog 41 #[.agg #[.int .u8 k, .int .i64 (s : Nat), .bool m], .pointer (some ⟨c, 0, none⟩)] w fun e w' => ∃ u, e = .returned u ∧ Buf w' u (wrV k s ((f k).getD 0)) ∧ Grew w w' := by
  unfold wrV
  cases h0 : ((f k).getD 0 == 0)
  · rw [if_neg (by simpa using h0)]
    exact wr1_yes k _ s m hk hs h0 hI rfl hc
  · rw [if_pos (by simpa using h0)]
    exact (wr1_no k _ s m hk hs (by simpa using h0) hI rfl hc).mono fun _ _ ⟨h1, h2⟩ => ⟨_, h1, Buf.nil _, h2⟩
abbrev wrF (c : Nat) : Value := .func (.func 41) #[] #[.pointer (some ⟨c, 0, none⟩)]
theorem writer_c (b : Nat) (w : World) : Calls Try.prog 34 #[.map (some b)] w fun e w' => ∃ c, e = .returned (wrF c) ∧ Blk w' c #[.map (some b)] 43 ∧ Grew w w' := by
  go_enter Try.func34, Try.ntmps34
  go_wp2_with fail
  go_ret
  exact ⟨_, rfl, Blk.new _ _ _ _ rfl, (Grew.refl _).alloc _⟩
set_option maxHeartbeats 4000000 in
theorem bytes_c {b n : Nat} {f : Int → Option Int} {w : World} (hI : OM w b n f) :
    Calls Try.prog 22 #[.map (some b)] w fun e w' => ∃ u, e = .returned u ∧ Buf w' u (wrTo f 7 ++ [255]) ∧ Grew w w' := by
  have HI := Lib.hid hI
  clear hI
  go_enter Try.func22, Try.ntmps22
  go_wp2_with fail
  refine (writer_c b w).mono ?_
  rintro e w1 ⟨c, rfl, hc1, g1⟩
  go_wp2_with fail
  refine (kinds_c w1).mono ?_
  rintro e w2 ⟨g, rfl, hk2, _, g2⟩
  have HC := Lib.hid (hc1.grew g2)
  have HK := Lib.hid hk2
  have HM := Lib.hid (IMap.grew (IMap.grew HI.out g1) g2)
  have G2 := Lib.hid (g1.trans g2)
  clear hc1 hk2 g1 g2 HI
  go_upto_region 4 with fail
  go_loopw [3, 11] (fun v i wr => ∃ k : Nat, k ≤ 7 ∧ i = .int .i64 k ∧ Hid (Row wr w2.heap.size v (wrTo f k)) ∧ Hid (Grew w2 wr)) (fun _ i _ => 7 - (intOf i).toNat)
  case atStart => exact ⟨0, by omega, rfl, Lib.hid (Row.nil _ _), Lib.hid (Grew.refl _)⟩
  case round =>
    obtain ⟨k, hk7, rfl, HR, HG⟩ := hrel
    by_cases hlt : k < 7
    · have hlt' : (k : Int) < 7 := by omega
      obtain ⟨c0, c1, c2⟩ := kC_at k hlt
      have x0 := (HK.out.grew HG.out).cell (k * 3)
      have x1 := (HK.out.grew HG.out).cell (k * 3 + 1)
      have x2 := (HK.out.grew HG.out).cell (k * 3 + 2)
      rw [c0] at x0
      rw [c1] at x1
      rw [c2] at x2
      have hw1 : Hid (wrTo f (k + 1) = wrTo f k ++ wrV (kN k) (kS k) ((f (kN k)).getD 0)) := Lib.hid rfl
      have hlen := Lib.hid (wrTo_len f k hk7)
      have hvl := Lib.hid (wrV_len (kN k) (kS k) ((f (kN k)).getD 0))
      have hs4 := kS_le k hlt
      have HWC := Lib.hid (fun w' (h1 : OM w' b n f) (h2 : Blk w' c #[.map (some b)] 43) => wr1_c (kN k) (kS k) (kM k) (kN_ok k hlt) (by omega) h1 h2)
      clear c0 c1 c2
      generalize wrV (kN k) (kS k) ((f (kN k)).getD 0) = nv at *
      generalize wrTo f k = cur at *
      generalize kN k = kn at *
      generalize kS k = ks at *
      generalize kM k = km at *
      go_upto_region 6 with fail
      have KA := Lib.hid (Blk.new wr #[.int .u8 kn, .int .i64 (ks : Nat), .bool km] 71 _ rfl)
      have ga : Grew wr (wr.alloc (.cells #[.int .u8 kn, .int .i64 (ks : Nat), .bool km] 71)) := (Grew.refl _).alloc _
      have HR2 := Lib.hid (HR.out.grew ga)
      have HG2 := Lib.hid (HG.out.trans ga)
      clear HR HG ga x0 x1 x2
      generalize (wr.alloc (.cells #[.int .u8 kn, .int .i64 (ks : Nat), .bool km] 71)) = w3 at *
      generalize wr.heap.size = N3 at *
      have y0 := KA.out.cell 0
      have y1 := KA.out.cell 1
      have y2 := KA.out.cell 2
      go_wp2_with fail
      refine (HWC.out w3 (IMap.grew HM.out HG2.out) (HC.out.grew HG2.out)).mono ?_
      rintro e w4 ⟨u, rfl, hb4, g4⟩
      have HB4 := Lib.hid hb4
      have HR4 := Lib.hid (HR2.out.grew g4)
      have HG4 := Lib.hid (HG2.out.trans g4)
      clear hb4 g4 HR2 HG2 y0 y1 y2
      go_wp2_with (refine wpList_append_b (W := w2) rfl (.tmp 15) (.tmp 18) rfl HG4.out HR4.out HB4.out (by rfl) (by rfl) (by have := hlen.out; have := hvl.out; omega) ?_; intro v5 w5 R5 g5 y5; clear y5)
      have HR5 := Lib.hid (show Row w5 w2.heap.size v5 (wrTo f (k + 1)) from by rw [hw1.out]; exact R5.out)
      have HG5 := Lib.hid g5
      clear R5 g5
      go_wp2_with fail
      go_roundw
      case rel => exact ⟨k + 1, by omega, by go_num, HR5, HG5⟩
      case measure => simp [intOf]; omega
    · obtain rfl : k = 7 := by omega
      have HL7 := Lib.hid (wrTo_len f 7 (by omega))
      have HO7 := Lib.hid (wrTo_ok f 7 (by omega))
      skip
      clear hlt hk7
      go_upto_region 8 with fail
      have hlit := Row.lit wr wr.heap.size (Nat.le_refl _) #[.int .u8 255] [255] rfl (by unfold maxLen; simp) _ rfl 1 rfl
      have HLB := Lib.hid (hlit.buf (fun z hz => by rw [List.mem_singleton.1 hz]; omega))
      have HRA := Lib.hid (HR.out.alloc (.cells #[.int .u8 255] 5))
      have HGA := Lib.hid (HG.out.alloc (.cells #[.int .u8 255] 5))
      clear hlit HR HG
      go_wp2_with (refine wpList_append_b (W := w2) rfl (.tmp 21) (.tmp 22) rfl HGA.out HRA.out HLB.out (by rfl) (by rfl) (by have := HL7.out; simp; omega) ?_; intro v5 w5 R5 g5 y5; clear y5)
      go_ret
      exact ⟨_, rfl, R5.out.buf (HO7.out.app (fun z hz => by rw [List.mem_singleton.1 hz]; omega)), G2.out.trans g5⟩
end Go.Proofs.Ytnmffkmpkgmkpaa
