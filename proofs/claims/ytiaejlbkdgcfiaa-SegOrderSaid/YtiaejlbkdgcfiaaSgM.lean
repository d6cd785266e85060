/-
  The document's own segments: options gone through.
-/
import Derived.Test.YtiaejlbkdgcfiaaSgR
set_option maxRecDepth 4000
set_option linter.unusedVariables false
set_option linter.unusedSimpArgs false
namespace Go.Proofs.Ytiaejlbkdgcfiaa
open Go.RowKit

theorem refGet19w_c {v : Value} {xs : List Int} (h8 : xs.length ≤ 8) {w : World} (hb : Buf w v xs) :
    Calls Try.prog 36 #[v] w fun e w' => e = .returned (.int .u64 (getV xs true)) ∧ w' = w := by
  have HB := Lib.hid (refGet_c true hb.ok (by omega) w hb.bytes)
  clear hb
  go_enter Try.func36, Try.ntmps36
  go_wp2_with fail
  refine HB.out.mono ?_
  rintro e w1 ⟨rfl, h1⟩
  obtain rfl := h1.symm
  go_wp2_with fail
  go_ret
  exact ⟨rfl, rfl⟩
set_option maxHeartbeats 4000000 in
theorem refMss_c {v : Value} {xs : List Int} (hl : xs.length ≤ 70000) {w : World} (hb : Buf w v xs) :
    Calls Try.prog 35 #[v] w fun e w' => e = .returned (.tuple #[.int .i64 (mssV xs).1, .bool (mssV xs).2]) ∧ w' = w := by
  obtain ⟨a, c, rfl, hc, ha⟩ := hb.shape
  have HB := Lib.hid hb
  have HOK := Lib.hid hb.ok
  have HA := Lib.hid ha
  obtain ⟨R, hR⟩ : ∃ R, R = mssV xs := ⟨_, rfl⟩
  rw [← hR]
  have HV : Hid (mssAt xs 0 0 false = R) := Lib.hid hR.symm
  obtain ⟨n, hn⟩ : ∃ n, n = xs.length := ⟨_, rfl⟩
  rw [← hn] at hl HB ⊢
  have HN := Lib.hid hn
  clear hR hc ha hb hn
  go_enter Try.func35, Try.ntmps35
  go_upto_region 3 with fail
  go_loop [4, 5, 6] (fun t f i => ∃ (k : Nat) (N : Int) (fd : Bool), k ≤ n ∧ (0 ≤ N ∧ N ≤ 65535) ∧ t = .int .i64 N ∧ f = .bool fd ∧ i = .int .i64 k ∧ Hid (mssAt xs k N fd = R)) (fun _ _ i => n - (intOf i).toNat)
  case atStart => exact ⟨0, 0, false, Nat.zero_le _, by omega, rfl, rfl, rfl, HV⟩
  case round =>
    obtain ⟨k, N, fd, hk, hN, rfl, rfl, rfl, HK⟩ := hrel
    have hN0 := hN.1
    have hN1 := hN.2
    clear hN
    by_cases hlt : k < n
    · have hne : xs ≠ [] := by have := HN.out; rintro rfl; simp at this; omega
      obtain ⟨bk, off, rfl, hat⟩ := HA.out hne
      have hat2 : ∀ j, j < n → w.cell? ⟨bk, off + j, none⟩ = some (.int .u8 (xs.getD j 0)) := fun j hj => hat j (by rw [← HN.out]; exact hj)
      clear hat hne
      have x0 : w.cell? ⟨bk, off + k, none⟩ = some (.int .u8 (xs.getD k 0)) := hat2 k hlt
      have hz0 := HOK.out.getD k
      have hlt' : (k : Int) < (n : Nat) := by omega
      by_cases z0 : xs.getD k 0 = 0
      · have HRES : Hid (R = (N, true)) := Lib.hid (by rw [← HK.out, mssAt_zero (by rw [← HN.out]; exact hlt) z0])
        rw [z0] at x0
        clear hat2 hz0 z0
        go_wp2_with fail
        go_ret2
        rw [HRES.out]
        exact ⟨rfl, rfl⟩
      · by_cases z1 : xs.getD k 0 = 1
        · have HRES : Hid (mssAt xs (k + 1) N fd = R) := Lib.hid (by rw [← HK.out, mssAt_one (by rw [← HN.out]; exact hlt) z1])
          rw [z1] at x0
          clear hat2 hz0 z0 z1
          go_wp2_with fail
          go_round
          case rel => exact ⟨k + 1, N, fd, by omega, by omega, rfl, rfl, by go_num, HRES⟩
          case measure => simp [intOf]; omega
        · have e0 : (xs.getD k 0 == 0) = false := by simpa using z0
          have e1 : (xs.getD k 0 == 1) = false := by simpa using z1
          by_cases h1n : k + 1 < n
          · have h1n' : ¬ ((n : Int) ≤ (k : Int) + 1) := by omega
            have hx1 : (k : Int) + 1 < (n : Nat) := by omega
            have x1 : w.cell? ⟨bk, off + (k + 1), none⟩ = some (.int .u8 (xs.getD (k + 1) 0)) := hat2 (k + 1) h1n
            have hz1 := HOK.out.getD (k + 1)
            have x1' : w.cell? ⟨bk, off + k + 1, none⟩ = some (.int .u8 (xs.getD (k + 1) 0)) := by rw [show off + k + 1 = off + (k + 1) by omega]; exact x1
            by_cases hbad : xs.getD (k + 1) 0 < 2 ∨ ((n : Int) - (k : Int)) < xs.getD (k + 1) 0
            · have HRES : Hid (R = (0, false)) := Lib.hid (by rw [← HK.out, mssAt_bad (by rw [← HN.out]; exact hlt) z0 z1 (by rw [← HN.out]; omega)])
              clear hat2
              generalize xs.getD k 0 = y0 at *
              generalize xs.getD (k + 1) 0 = y1 at *
              by_cases h2 : y1 < 2
              · clear hbad z0 z1
                go_wp2_with fail
                go_ret2
                rw [HRES.out]
                exact ⟨rfl, rfl⟩
              · have h3 : ((n : Int) - (k : Int)) < y1 := by omega
                clear hbad z0 z1
                go_wp2_with fail
                go_ret2
                rw [HRES.out]
                exact ⟨rfl, rfl⟩
            · have h2 : ¬ (xs.getD (k + 1) 0 < 2) := by omega
              have h3 : ¬ (((n : Int) - (k : Int)) < xs.getD (k + 1) 0) := by omega
              have hnb : ¬ (xs.length ≤ k + 1 ∨ xs.getD (k + 1) 0 < 2 ∨ ((xs.length - k : Nat) : Int) < xs.getD (k + 1) 0) := by rw [← HN.out]; omega
              by_cases hm : xs.getD k 0 = 2 ∧ xs.getD (k + 1) 0 = 4 ∧ fd = false
              · obtain ⟨m1, m2, rfl⟩ := hm
                have h4 : k + 4 ≤ n := by omega
                have HRES : Hid (mssAt xs (k + 4) (getV (cutL xs (k + 2) (k + 4)) true) true = R) := Lib.hid (by rw [← HK.out, mssAt_mss (by rw [← HN.out]; exact hlt) z0 z1 hnb ⟨m1, m2, rfl⟩])
                obtain ⟨a', c', hcut, s1, hrun, s3, s4⟩ := HB.out.run_cut (lo := k + 2) (hi := k + 4) (by omega) (by rw [← HN.out]; exact h4)
                have hl2 : (cutL xs (k + 2) (k + 4)).length = 2 := by rw [cutL_length (by omega) (by rw [← HN.out]; exact h4)]; omega
                have hr : ∀ w', (Instr.sliceAt 23 (.slice (some ⟨bk, off, none⟩) n c) (some (.int .i64 ((k : Int) + 2))) (some (.int .i64 ((k : Int) + 4))) none).run Try.prog w' = .ok (.slice a' 2 c') w' := fun w' => by
                  have := hrun .i64 .i64 w'
                  rwa [show k + 4 - (k + 2) = 2 by omega, show ((k + 2 : Nat) : Int) = (k : Int) + 2 by omega, show ((k + 4 : Nat) : Int) = (k : Int) + 4 by omega] at this
                rw [show k + 4 - (k + 2) = 2 by omega] at hcut
                have hg := getG_lt hcut.ok true hl2 (by omega)
                rw [show (2 : Int) ^ (8 * 2) = 65536 by decide] at hg
                have HG := Lib.hid (refGet19w_c (by omega) hcut)
                rw [m1] at x0
                rw [m2] at x1 x1'
                clear s1 hrun s3 s4 hcut hl2 hat2 hz0 hz1 z0 z1 e0 e1 m1 m2 h2 h3 hnb
                generalize getV (cutL xs (k + 2) (k + 4)) true = M at *
                have ewm : IntKind.i64.wrap M = M := IntWalk.i64_in _ (by omega)
                have h4' : (4 : Int) ≤ (n : Int) - k := by omega
                go_wp2_with fail
                refine HG.out.mono ?_
                rintro e wx ⟨rfl, hx⟩
                obtain rfl := hx.symm
                go_wp2_with fail
                go_round
                case rel => exact ⟨k + 4, M, true, by omega, by omega, by first | rfl | (rw [ewm]), rfl, by go_num, HRES⟩
                case measure => simp [intOf]; omega
              · have HRES : Hid (mssAt xs (k + (xs.getD (k + 1) 0).toNat) N fd = R) := Lib.hid (by rw [← HK.out, mssAt_skip (by rw [← HN.out]; exact hlt) z0 z1 hnb hm])
                clear hat2 hnb
                generalize xs.getD k 0 = y0 at *
                generalize xs.getD (k + 1) 0 = y1 at *
                obtain ⟨m, rfl⟩ : ∃ m : Nat, y1 = (m : Int) := ⟨y1.toNat, by omega⟩
                rw [Int.toNat_natCast] at HRES
                have ewm : IntKind.i64.wrap (m : Int) = (m : Int) := IntWalk.i64_in _ (by omega)
                have hm3 : ((y0 == 2) = false) ∨ ((y0 == 2) = true ∧ ((m : Int) == 4) = false) ∨ ((y0 == 2) = true ∧ ((m : Int) == 4) = true ∧ fd = true) := by
                  by_cases c1 : y0 = 2
                  · by_cases c2 : (m : Int) = 4
                    · cases fd
                      · exact absurd ⟨c1, c2, rfl⟩ hm
                      · exact .inr (.inr ⟨by simpa using c1, by simpa using c2, rfl⟩)
                    · exact .inr (.inl ⟨by simpa using c1, by simpa using c2⟩)
                  · exact .inl (by simpa using c1)
                have hmn : k + m ≤ n := by omega
                have hm2 : 2 ≤ m := by omega
                clear hm z0 z1
                rcases hm3 with c1 | ⟨c1, c2⟩ | ⟨c1, c2, rfl⟩
                all_goals
                  go_wp2_with fail
                  go_round
                  case rel => exact ⟨k + m, N, _, by omega, by omega, rfl, rfl, by go_num, HRES⟩
                  case measure => simp [intOf]; omega
          · have h1n' : ((n : Int) ≤ (k : Int) + 1) := by omega
            have HRES : Hid (R = (0, false)) := Lib.hid (by rw [← HK.out, mssAt_bad (by rw [← HN.out]; exact hlt) z0 z1 (by rw [← HN.out]; omega)])
            clear hat2
            generalize xs.getD k 0 = y0 at *
            clear z0 z1
            go_wp2_with fail
            go_ret2
            rw [HRES.out]
            exact ⟨rfl, rfl⟩
    · have HRES : Hid (R = (N, true)) := Lib.hid (by rw [← HK.out, mssAt_end (by rw [← HN.out]; exact hlt)])
      have hlt' : ¬ ((k : Int) < (n : Nat)) := by omega
      go_wp2_with fail
      go_ret2
      rw [HRES.out]
      exact ⟨rfl, rfl⟩
end Go.Proofs.Ytiaejlbkdgcfiaa
