/-
  The document's own messages: small functions; options found.
-/
import Derived.Test.YtnmffkmpkgmkpaaDhN
import Derived.Test.YtnmffkmpkgmkpaaPutB
import Derived.LoopTactic
import Derived.OwnWalk
set_option maxRecDepth 4000
set_option linter.unusedVariables false
set_option linter.unusedSimpArgs false
namespace Go.Proofs.Ytnmffkmpkgmkpaa
open Go.RowKit

theorem refFour_c (x : Int) (h : 0 ≤ x ∧ x < 4294967296) (w : World) :
    Calls Try.prog 23 #[.int .u32 x] w fun e w' => ∃ a c, e = .returned (.slice a 4 c) ∧ Row w' w.heap.size (.slice a 4 c) (putL x 4 true) ∧ Buf w' (.slice a 4 c) (putL x 4 true) ∧ Grew w w' := by
  have hw : IntKind.u64.wrap x = x := IntWalk.u64_in x (by omega)
  go_enter Try.func23, Try.ntmps23
  go_wp2_with fail
  try rw [hw]
  refine (refPutB_c x _ 4 true (by rfl) (by omega) (by omega) (by omega) _).mono ?_
  rintro e w1 ⟨u1, rfl, r1, b1, g1⟩
  obtain ⟨a, c, rfl, _, _⟩ := b1.shape
  rw [putB_len] at b1 r1 ⊢
  have B1 := Lib.hid b1
  have R1 := Lib.hid r1
  clear b1 r1
  go_wp2_with fail
  go_ret
  exact ⟨_, _, rfl, R1.out, B1.out, g1⟩
theorem refNumber_c {v : Value} {xs : List Int} (h4 : xs.length = 4) {w : World} (hb : Buf w v xs) :
    Calls Try.prog 25 #[v] w fun e w' => e = .returned (.int .u32 (getV xs true)) ∧ w' = w := by
  have HB := Lib.hid (refGet_c true hb.ok (by omega) w hb.bytes)
  have hg := getG_lt hb.ok true h4 (by omega)
  rw [show (2 : Int) ^ (8 * 4) = 4294967296 by decide] at hg
  clear hb
  generalize getV xs true = z at *
  have ew : IntKind.u32.wrap z = z := IntWalk.u32_in _ (by omega)
  go_enter Try.func25, Try.ntmps25
  go_wp2_with fail
  refine HB.out.mono ?_
  rintro e w1 ⟨rfl, h1⟩
  obtain rfl := h1.symm
  go_wp2_with fail
  go_ret
  exact ⟨by first | rfl | (rw [ew]), rfl⟩
theorem refOption_c (k x : Int) (hk : 0 ≤ k ∧ k < 256) (h : 0 ≤ x ∧ x < 4294967296) (w : World) :
    Calls Try.prog 24 #[.int .u8 k, .int .u32 x] w fun e w' => ∃ u, e = .returned u ∧ Buf w' u (opDH k x) ∧ Grew w w' := by
  cases hx : (x == 0)
  · have he : opDH k x = [k, 4] ++ putL x 4 true := by unfold opDH; rw [if_neg (by simpa using hx)]
    rw [he]
    go_enter Try.func24, Try.ntmps24
    go_upto_region 3 with fail
    go_wp2_with (first
      | (go_at_call 23; refine (refFour_c x h _).mono ?_; rintro e w2 ⟨a2, c2, rfl, hr2, hb2, g2⟩; have HB2 := Lib.hid hb2; clear hr2 hb2)
      | (refine wpList_append_b (W := w) rfl (.tmp 8) (.tmp 10) rfl (((Grew.refl w).alloc _).trans g2) ((Row.lit w w.heap.size (Nat.le_refl _) #[.int .u8 k, .int .u8 4] [k, 4] rfl (by unfold maxLen; simp) _ rfl 2 rfl).grew g2) HB2.out (by rfl) (by rfl) (by simp [putB_len]) ?_; intro v4 w4 R4 g4 y4; clear y4))
    go_ret
    exact ⟨_, rfl, R4.out.buf ((bytes_lit' hk (by omega)).app (putB_ok _ _ _)), g4⟩
  · have he : opDH k x = [] := by unfold opDH; rw [if_pos (by simpa using hx)]
    rw [he]
    go_enter Try.func24, Try.ntmps24
    go_wp2_with fail
    go_ret
    exact ⟨_, rfl, Buf.nil _, Grew.refl _⟩
set_option maxHeartbeats 4000000 in
theorem find_c {v : Value} {xs : List Int} (kind : Int) (size : Nat) (more : Bool) (hk : 0 ≤ kind ∧ kind < 256) (hs : size ≤ 300) (hl : xs.length ≤ 140737488355328) {w : World} (hb : Buf w v xs) :
    Calls Try.prog 26 #[v, .int .u8 kind, .int .i64 size, .bool more] w fun e w' => ∃ u, e = .returned (.tuple #[u, .bool (fndV xs kind size more).2.1, .bool (fndV xs kind size more).2.2]) ∧ Buf w u (fndV xs kind size more).1 ∧ w' = w := by
  obtain ⟨a, c, rfl, hc, ha⟩ := hb.shape
  have HB := Lib.hid hb
  have HOK := Lib.hid hb.ok
  have HA := Lib.hid ha
  obtain ⟨R, hR⟩ : ∃ R, R = fndV xs kind size more := ⟨_, rfl⟩
  rw [← hR]
  have HV : Hid (fndV (xs.drop 0) kind size more = R) := Lib.hid hR.symm
  obtain ⟨n, hn⟩ : ∃ n, n = xs.length := ⟨_, rfl⟩
  rw [← hn] at hl HB ⊢
  have HN := Lib.hid hn
  clear hR hc ha hb hn
  go_enter Try.func26, Try.ntmps26
  go_upto_region 2 with fail
  go_loop [11] (fun i => ∃ (k : Nat), k ≤ n ∧ i = .int .i64 k ∧ Hid (fndV (xs.drop k) kind size more = R)) (fun i => n - (intOf i).toNat)
  case atStart => exact ⟨0, Nat.zero_le _, rfl, HV⟩
  case round =>
    obtain ⟨k, hkn, rfl, HK⟩ := hrel
    have hg : ∀ t, (xs.drop k).getD t 0 = xs.getD (k + t) 0 := fun t => by simp only [List.getD_eq_getElem?_getD, List.getElem?_drop]
    have hdl : (xs.drop k).length = n - k := by rw [List.length_drop, ← HN.out]
    by_cases hlt : k < n
    · have hne : xs ≠ [] := by have := HN.out; rintro rfl; simp at this; omega
      obtain ⟨bk, off, rfl, hat⟩ := HA.out hne
      have hat2 : ∀ j, j < n → w.cell? ⟨bk, off + j, none⟩ = some (.int .u8 (xs.getD j 0)) := fun j hj => hat j (by rw [← HN.out]; exact hj)
      clear hat hne
      have x0 : w.cell? ⟨bk, off + k, none⟩ = some (.int .u8 (xs.getD k 0)) := hat2 k hlt
      have hz0 := HOK.out.getD k
      have hlt' : (k : Int) < (n : Nat) := by omega
      have hp : 0 < (xs.drop k).length := by omega
      have g0 : (xs.drop k).getD 0 0 = xs.getD k 0 := hg 0
      have g1 : (xs.drop k).getD 1 0 = xs.getD (k + 1) 0 := hg 1
      by_cases z0 : xs.getD k 0 = 255
      · have HRES : Hid (R = ([], false, true)) := Lib.hid (by rw [← HK.out, fndV_end hp (by rw [g0, z0])])
        rw [z0] at x0
        clear hat2 hz0 z0 hg hdl g0 g1
        go_wp2_with fail
        go_ret3
        rw [HRES.out]
        exact ⟨_, rfl, Buf.nil _, rfl⟩
      · by_cases z1 : xs.getD k 0 = 0
        · have HRES : Hid (fndV (xs.drop (k + 1)) kind size more = R) := Lib.hid (by rw [← HK.out, fndV_zero hp (by rw [g0, z1]), List.drop_drop])
          rw [z1] at x0
          clear hat2 hz0 z0 z1 hg hdl g0 g1
          go_wp2_with fail
          go_round
          case rel => exact ⟨k + 1, by omega, by go_num, HRES⟩
          case measure => simp [intOf]; omega
        · have e0 : (xs.getD k 0 != 255) = true := by simpa using z0
          have e1 : (xs.getD k 0 == 0) = false := by simpa using z1
          by_cases h1n : k + 1 < n
          · have h1n' : ¬ ((n : Int) ≤ (k : Int) + 1) := by omega
            have hx1 : (k : Int) + 1 < (n : Nat) := by omega
            have x1 : w.cell? ⟨bk, off + (k + 1), none⟩ = some (.int .u8 (xs.getD (k + 1) 0)) := hat2 (k + 1) h1n
            have hz1 := HOK.out.getD (k + 1)
            have x1' : w.cell? ⟨bk, off + k + 1, none⟩ = some (.int .u8 (xs.getD (k + 1) 0)) := by rw [show off + k + 1 = off + (k + 1) by omega]; exact x1
            by_cases hbad : ((n : Int) - (k : Int) - 2) < xs.getD (k + 1) 0
            · have HRES : Hid (R = ([], false, false)) := Lib.hid (by rw [← HK.out, fndV_bad hp (by rw [g0]; exact z1) (by rw [g0]; exact z0) (by rw [g1]; omega)])
              clear hat2 hg g0 g1 z0 z1
              generalize xs.getD k 0 = y0 at *
              generalize xs.getD (k + 1) 0 = y1 at *
              go_wp2_with fail
              go_ret3
              rw [HRES.out]
              exact ⟨_, rfl, Buf.nil _, rfl⟩
            · have hnb : ¬ ((xs.drop k).length ≤ 1 ∨ (((xs.drop k).length : Int) - 2 < (xs.drop k).getD 1 0)) := by rw [g1]; omega
              by_cases hit : xs.getD k 0 = kind ∧ fitsV size more (xs.getD (k + 1) 0).toNat = true
              · obtain ⟨h3, h5⟩ := hit
                have HRES : Hid (R = (cutL (xs.drop k) 2 (2 + size), true, true)) := Lib.hid (by rw [← HK.out, fndV_hit hp (by rw [g0]; exact z1) (by rw [g0]; exact z0) hnb (by rw [g0]; exact h3) (by rw [g1]; omega) (by rw [g1]; exact h5)])
                have hsn : (size : Int) ≤ xs.getD (k + 1) 0 := by
                  simp only [fitsV, Bool.or_eq_true, Bool.and_eq_true, beq_iff_eq, decide_eq_true_eq] at h5
                  omega
                obtain ⟨a', c', hcut, s1, hrun, s3, s4⟩ := HB.out.run_cut (lo := k + 2) (hi := k + 2 + size) (by omega) (by rw [← HN.out]; omega)
                have hr : ∀ w', (Instr.sliceAt 22 (.slice (some ⟨bk, off, none⟩) n c) (some (.int .i64 ((k : Int) + 2))) (some (.int .i64 ((k : Int) + 2 + (size : Int)))) none).run Try.prog w' = .ok (.slice a' size c') w' := fun w' => by
                  have := hrun .i64 .i64 w'
                  rwa [show k + 2 + size - (k + 2) = size by omega, show ((k + 2 : Nat) : Int) = (k : Int) + 2 by omega, show ((k + 2 + size : Nat) : Int) = (k : Int) + 2 + (size : Int) by omega] at this
                rw [show k + 2 + size - (k + 2) = size by omega, show cutL xs (k + 2) (k + 2 + size) = cutL (xs.drop k) 2 (2 + size) by unfold cutL; rw [List.drop_drop]; congr 1; omega] at hcut
                have HCUT := Lib.hid hcut
                clear s1 s3 s4 hrun hcut hat2 hg g0 g1 hnb
                have hw2 : ((xs.getD (k + 1) 0 == (size : Int)) = true) ∨ ((xs.getD (k + 1) 0 == (size : Int)) = false ∧ more = true ∧ (size : Int) < xs.getD (k + 1) 0) := by
                  simp only [fitsV, Bool.or_eq_true, Bool.and_eq_true, beq_iff_eq, decide_eq_true_eq] at h5
                  by_cases e : xs.getD (k + 1) 0 = (size : Int)
                  · exact .inl (by simpa using e)
                  · rcases h5 with h5 | ⟨h5, h6⟩
                    · omega
                    · exact .inr ⟨by simpa using e, h5, by omega⟩
                have ek : (xs.getD k 0 == kind) = true := by simpa using h3
                clear h3 h5 z0 z1
                generalize xs.getD k 0 = y0 at *
                generalize xs.getD (k + 1) 0 = y1 at *
                obtain ⟨m, rfl⟩ : ∃ m : Nat, y1 = (m : Int) := ⟨y1.toNat, by omega⟩
                have ewm : IntKind.i64.wrap (m : Int) = (m : Int) := IntWalk.i64_in _ (by omega)
                rcases hw2 with c1 | ⟨c1, rfl, c3⟩
                all_goals
                  go_wp2_with fail
                  go_ret3
                  rw [HRES.out]
                  exact ⟨_, rfl, HCUT.out, rfl⟩
              · have HRES : Hid (fndV (xs.drop (k + (2 + (xs.getD (k + 1) 0).toNat))) kind size more = R) := Lib.hid (by
                  rw [← HK.out, fndV_skip hp (by rw [g0]; exact z1) (by rw [g0]; exact z0) hnb (by rw [g1]; omega) (by
                    rw [g0, g1]
                    cases h5 : fitsV size more (xs.getD (k + 1) 0).toNat
                    · exact .inr rfl
                    · exact .inl (fun h3 => hit ⟨h3, h5⟩)), List.drop_drop, g1])
                clear hat2 hg g0 g1 hnb
                have hw2 : ((xs.getD k 0 == kind) = false) ∨ ((xs.getD k 0 == kind) = true ∧ (xs.getD (k + 1) 0 == (size : Int)) = false ∧ (more = false ∨ (more = true ∧ ¬ (size : Int) < xs.getD (k + 1) 0))) := by
                  by_cases h3 : xs.getD k 0 = kind
                  · refine .inr ⟨by simpa using h3, ?_⟩
                    have h5 : ¬ fitsV size more (xs.getD (k + 1) 0).toNat = true := fun h5 => hit ⟨h3, h5⟩
                    simp only [fitsV, Bool.or_eq_true, Bool.and_eq_true, beq_iff_eq, decide_eq_true_eq, not_or, not_and] at h5
                    refine ⟨by rw [beq_eq_false_iff_ne]; omega, ?_⟩
                    cases more
                    · exact .inl rfl
                    · exact .inr ⟨rfl, by have := h5.2 rfl; omega⟩
                  · exact .inl (by simpa using h3)
                clear hit z0 z1
                generalize xs.getD k 0 = y0 at *
                generalize xs.getD (k + 1) 0 = y1 at *
                obtain ⟨m, rfl⟩ : ∃ m : Nat, y1 = (m : Int) := ⟨y1.toNat, by omega⟩
                rw [Int.toNat_natCast] at HRES
                have ewm : IntKind.i64.wrap (m : Int) = (m : Int) := IntWalk.i64_in _ (by omega)
                have hmn : k + 2 + m ≤ n := by omega
                rcases hw2 with c1 | ⟨c1, c2, rfl | ⟨rfl, c4⟩⟩
                all_goals
                  go_wp2_with fail
                  go_round
                  case rel => exact ⟨k + (2 + m), by omega, by go_num, HRES⟩
                  case measure => simp [intOf]; omega
          · have h1n' : ((n : Int) ≤ (k : Int) + 1) := by omega
            have HRES : Hid (R = ([], false, false)) := Lib.hid (by rw [← HK.out, fndV_bad hp (by rw [g0]; exact z1) (by rw [g0]; exact z0) (.inl (by omega))])
            clear hat2 hg g0 g1
            generalize xs.getD k 0 = y0 at *
            clear z0 z1
            go_wp2_with fail
            go_ret3
            rw [HRES.out]
            exact ⟨_, rfl, Buf.nil _, rfl⟩
    · have HRES : Hid (R = ([], false, true)) := Lib.hid (by rw [← HK.out, show xs.drop k = [] from List.drop_eq_nil_of_le (by rw [← HN.out]; omega), fndV_nil])
      have hlt' : ¬ ((k : Int) < (n : Nat)) := by omega
      go_wp2_with fail
      go_ret3
      rw [HRES.out]
      exact ⟨_, rfl, Buf.nil _, rfl⟩
theorem refValue_c {v : Value} {xs : List Int} (kind : Int) (more : Bool) (hk : 0 ≤ kind ∧ kind < 256) (hl : xs.length ≤ 140737488355328) {w : World} (hb : Buf w v xs) :
    Calls Try.prog 27 #[v, .int .u8 kind, .bool more] w fun e w' => e = .returned (.int .u32 (fourV xs kind more)) ∧ w' = w := by
  have HF := Lib.hid (find_c kind 4 more hk (by omega) hl hb)
  have hx := @fstV_ok xs hb.ok kind 4 more
  unfold fourV
  cases e : fstV (optV xs).1 kind 4 more with
  | none =>
    rw [show fndV xs kind 4 more = ([], false, (optV xs).2) by unfold fndV; rw [e]] at HF
    go_enter Try.func27, Try.ntmps27
    go_wp2_with fail
    refine HF.out.mono ?_
    rintro e w1 ⟨u, rfl, hbu, h1⟩
    obtain rfl := h1.symm
    go_wp2_with fail
    go_ret
    exact ⟨rfl, rfl⟩
  | some d =>
    rw [show fndV xs kind 4 more = (d, true, true) by unfold fndV; rw [e]] at HF
    have h4 := (hx e).2
    go_enter Try.func27, Try.ntmps27
    go_wp2_with fail
    refine HF.out.mono ?_
    rintro e w1 ⟨u, rfl, hbu, h1⟩
    obtain rfl := h1.symm
    go_wp2_with fail
    refine (refNumber_c h4 hbu).mono ?_
    rintro e w1 ⟨rfl, h1⟩
    obtain rfl := h1.symm
    go_wp2_with fail
    go_ret
    exact ⟨rfl, rfl⟩
end Go.Proofs.Ytnmffkmpkgmkpaa
