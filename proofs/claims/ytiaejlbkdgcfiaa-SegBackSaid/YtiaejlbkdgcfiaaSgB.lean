/-
  Package seg: options gone through.
-/
import Derived.Test.YtiaejlbkdgcfiaaSgA
import Derived.WalkMore
import Derived.LoopTactic
import Derived.Outline
set_option maxRecDepth 4000
set_option linter.unusedVariables false
set_option linter.unusedSimpArgs false
namespace Go.Proofs.Ytiaejlbkdgcfiaa
open Go.RowKit

theorem mssF_drop (b : List Int) (i : Nat) : ∀ k j n fd, mssF (b.drop i) k j n fd = mssF b k (i + j) n fd
  | 0, _, _, _ => rfl
  | k + 1, j, n, fd => by
    have hg : ∀ t, (b.drop i).getD t 0 = b.getD (i + t) 0 := fun t => by simp only [List.getD_eq_getElem?_getD, List.getElem?_drop]
    have hc : ∀ lo hi, cutL (b.drop i) lo hi = cutL b (i + lo) (i + hi) := fun lo hi => by simp only [cutL, List.drop_drop]; congr 1; omega
    have hl : (b.drop i).length = b.length - i := by simp
    unfold mssF
    rw [hg, hg, hl, hc]
    by_cases c0 : i + j < b.length
    · rw [if_neg (show ¬ ¬ j < b.length - i by omega), if_neg (show ¬ ¬ i + j < b.length by omega)]
      by_cases c1 : b.getD (i + j) 0 = 0
      · rw [if_pos c1, if_pos c1]
      · rw [if_neg c1, if_neg c1]
        by_cases c2 : b.getD (i + j) 0 = 1
        · rw [if_pos c2, if_pos c2]; exact mssF_drop b i k (j + 1) n fd
        · rw [if_neg c2, if_neg c2, show i + (j + 1) = i + j + 1 by omega]
          by_cases c3 : b.length ≤ i + j + 1 ∨ b.getD (i + j + 1) 0 < 2 ∨ ((b.length - (i + j) : Nat) : Int) < b.getD (i + j + 1) 0
          · rw [if_pos (show b.length - i ≤ j + 1 ∨ b.getD (i + j + 1) 0 < 2 ∨ ((b.length - i - j : Nat) : Int) < b.getD (i + j + 1) 0 by omega), if_pos c3]
          · rw [if_neg (show ¬ (b.length - i ≤ j + 1 ∨ b.getD (i + j + 1) 0 < 2 ∨ ((b.length - i - j : Nat) : Int) < b.getD (i + j + 1) 0) by omega), if_neg c3]
            by_cases c4 : b.getD (i + j) 0 = 2 ∧ b.getD (i + j + 1) 0 = 4 ∧ fd = false
            · rw [if_pos c4, if_pos c4]
              have := mssF_drop b i k (j + 4) (getV (cutL b (i + (j + 2)) (i + (j + 4))) true) true
              rw [this]
              rfl
            · rw [if_neg c4, if_neg c4]
              have := mssF_drop b i k (j + (b.getD (i + j + 1) 0).toNat) n fd
              rw [this, show i + (j + (b.getD (i + j + 1) 0).toNat) = i + j + (b.getD (i + j + 1) 0).toNat by omega]
    · rw [if_pos (show ¬ j < b.length - i by omega), if_pos (show ¬ i + j < b.length by omega)]
theorem mssAt_from (b : List Int) (i : Nat) (n : Int) (fd : Bool) : mssAt b i n fd = mssAt (b.drop i) 0 n fd := by
  unfold mssAt
  rw [← Nat.add_zero i, ← mssF_drop, Nat.add_zero]
  exact mssF_more _ _ _ _ _ _ (by simp; omega) (by simp)
def sliceN : Value → Nat
  | .slice _ n _ => n
  | _ => 0
set_option maxHeartbeats 4000000 in
theorem mssIn_c {v : Value} {xs : List Int} (hl : xs.length ≤ 140737488355328) {w : World} (hb : Buf w v xs) :
    Calls Try.prog 49 #[v] w fun e w' => e = .returned (.tuple #[.int .i64 (mssV xs).1, .bool (mssV xs).2]) ∧ w' = w := by
  obtain ⟨R, hR⟩ : ∃ R, R = mssV xs := ⟨_, rfl⟩
  rw [← hR]
  have HV : Hid (mssAt xs 0 0 false = R) := Lib.hid hR.symm
  have HBX := Lib.hid hb
  have HLX := Lib.hid hl
  clear hR hb hl
  go_enter Try.func49, Try.ntmps49
  go_upto_region 1 with fail
  go_step3
  go_wp2_with fail
  go_step3
  go_wp2_with fail
  go_loop [0, 4, 5] (fun o t f => ∃ (ys : List Int) (N : Int) (fd : Bool), Buf w o ys ∧ ys.length ≤ 140737488355328 ∧ (0 ≤ N ∧ N ≤ 65535) ∧ t = .int .i64 N ∧ f = .bool fd ∧ Hid (mssAt ys 0 N fd = R)) (fun o _ _ => sliceN o)
  case atStart => exact ⟨xs, 0, false, HBX.out, HLX.out, by omega, rfl, rfl, HV⟩
  case round =>
    obtain ⟨ys, N, fd, hB, hly, hN, rfl, rfl, HK⟩ := hrel
    have HB := Lib.hid hB
    obtain ⟨a, c, rfl, _, ha⟩ := hB.shape
    by_cases hne : ys = []
    · subst hne
      have HRES : Hid (R = (N, true)) := Lib.hid (by rw [← HK.out, mssAt_end (by simp)])
      clear ha hB
      go_wp2_with fail
      try dsimp only [Exit.noGoto]
      go_ret2
      rw [HRES.out]
      exact ⟨rfl, rfl⟩
    · have hp : 0 < ys.length := List.length_pos_iff.2 hne
      have hp' : (0 : Int) < (ys.length : Int) := by omega
      obtain ⟨bk, off, rfl, hat⟩ := ha hne
      have x0 := hat 0 hp
      rw [Nat.add_zero] at x0
      have hz0 := hB.ok.getD 0
      have hz1 := hB.ok.getD 1
      have HO := Lib.hid (fun w' => osz_c hne w' (v := (.slice (some ⟨bk, off, none⟩) ys.length c)) (ys := ys))
      replace HO := Lib.hid (HO.out w hB)
      have hdr : ∀ m N' fd', mssAt ys m N' fd' = mssAt (ys.drop m) 0 N' fd' := fun m N' fd' => mssAt_from ys m N' fd'
      by_cases z0 : ys.getD 0 0 = 0
      · have HRES : Hid (R = (N, true)) := Lib.hid (by rw [← HK.out, mssAt_zero hp z0])
        have ez : oszV ys = 1 := by unfold oszV; rw [if_pos (.inl z0)]
        rw [ez] at HO
        rw [z0] at x0
        clear hat ha hB hz0 hz1 z0 hne hdr ez
        go_wp2_with fail
        refine HO.out.mono ?_
        rintro e wx ⟨rfl, hx⟩
        obtain rfl := hx.symm
        go_wp2_with fail
        try dsimp only [Exit.noGoto]
        go_ret2
        rw [HRES.out]
        exact ⟨rfl, rfl⟩
      · by_cases z1 : ys.getD 0 0 = 1
        · have HRES : Hid (mssAt (ys.drop 1) 0 N fd = R) := Lib.hid (by rw [← hdr, ← HK.out, mssAt_one hp z1])
          have ez : oszV ys = 1 := by unfold oszV; rw [if_pos (.inr z1)]
          rw [ez] at HO
          rw [z1] at x0
          obtain ⟨a', c', hcut, s1, s2, s3, hrun⟩ := HB.out.run_cut (lo := 1) (hi := ys.length) (by omega) (by omega)
          have hr : ∀ w', (Instr.sliceAt 23 (.slice (some ⟨bk, off, none⟩) ys.length c) (some (.int .i64 1)) none none).run Try.prog w' = .ok (.slice a' (ys.length - 1) c') w' := hrun rfl .i64
          rw [cutL_rest] at hcut
          have HCUT := Lib.hid hcut
          clear s1 s2 s3 hrun hcut
          clear hat ha hB hz0 hz1 z0 z1 hne hdr ez
          go_wp2_with fail
          refine HO.out.mono ?_
          rintro e wx ⟨rfl, hx⟩
          obtain rfl := hx.symm
          go_wp2_with fail
          go_round
          case rel => exact ⟨ys.drop 1, N, fd, HCUT.out, by rw [List.length_drop]; omega, by omega, by first | rfl | (rw [ewm]), rfl, HRES⟩
          case measure => simp only [sliceN]; omega
        · have e0 : (ys.getD 0 0 == 0) = false := by simpa using z0
          by_cases hbad : ys.length ≤ 0 + 1 ∨ ys.getD (0 + 1) 0 < 2 ∨ ((ys.length - 0 : Nat) : Int) < ys.getD (0 + 1) 0
          · have HRES : Hid (R = (0, false)) := Lib.hid (by rw [← HK.out, mssAt_bad hp z0 z1 hbad])
            have ez : oszV ys = 0 := by
              rw [Nat.zero_add, Nat.sub_zero] at hbad
              unfold oszV; rw [if_neg (by omega), if_pos hbad]
            rw [ez] at HO
            clear hat ha hB hz0 hz1 z0 z1 hne hdr ez hbad
            go_wp2_with fail
            refine HO.out.mono ?_
            rintro e wx ⟨rfl, hx⟩
            obtain rfl := hx.symm
            go_wp2_with fail
            try dsimp only [Exit.noGoto]
            go_ret2
            rw [HRES.out]
            exact ⟨rfl, rfl⟩
          · have hnb := hbad
            rw [Nat.zero_add, Nat.sub_zero] at hbad
            have ez : oszV ys = ys.getD 1 0 := by unfold oszV; rw [if_neg (by omega), if_neg hbad]
            by_cases hm : ys.getD 0 0 = 2 ∧ ys.getD (0 + 1) 0 = 4 ∧ fd = false
            · have HRES : Hid (mssAt (ys.drop 4) 0 (getV (cutL ys 2 4) true) true = R) := Lib.hid (by rw [← hdr, ← HK.out, mssAt_mss hp z0 z1 hnb hm])
              obtain ⟨m1, m2, rfl⟩ := hm
              rw [Nat.zero_add] at m2
              rw [ez, m2] at HO
              have h4 : 4 ≤ ys.length := by omega
              have hl2 : (cutL ys 2 4).length = 2 := by rw [cutL_length (by omega) h4]
              have hg := getG_lt (hB.ok.cut 2 4) true hl2 (by omega)
              rw [show (2 : Int) ^ (8 * 2) = 65536 by decide] at hg
              have HG := Lib.hid (sgPairAt_c 2 2 4 (by rfl) rfl h4 w hB)
              obtain ⟨a', c', hcut, s1, s2, s3, hrun⟩ := HB.out.run_cut (lo := 4) (hi := ys.length) (by omega) (by omega)
              have hr : ∀ w', (Instr.sliceAt 23 (.slice (some ⟨bk, off, none⟩) ys.length c) (some (.int .i64 4)) none none).run Try.prog w' = .ok (.slice a' (ys.length - 4) c') w' := hrun rfl .i64
              rw [cutL_rest] at hcut
              have HCUT := Lib.hid hcut
              clear s1 s2 s3 hrun hcut
              rw [m1] at x0
              clear hat ha hB hz0 hz1 z0 z1 hne hdr ez hbad hnb m1 m2 hl2 e0
              generalize getV (cutL ys 2 4) true = M at *
              have ewm : IntKind.i64.wrap M = M := IntWalk.i64_in _ (by omega)
              go_wp2_with fail
              refine HO.out.mono ?_
              rintro e wx ⟨rfl, hx⟩
              obtain rfl := hx.symm
              go_wp2_with fail
              refine HG.out.mono ?_
              rintro e wx ⟨rfl, hx⟩
              obtain rfl := hx.symm
              go_wp2_with fail
              go_round
              case rel => exact ⟨ys.drop 4, M, true, HCUT.out, by rw [List.length_drop]; omega, by omega, by first | rfl | (rw [ewm]), rfl, HRES⟩
              case measure => simp only [sliceN]; omega
            · have HRES : Hid (mssAt (ys.drop (ys.getD 1 0).toNat) 0 N fd = R) := Lib.hid (by rw [← hdr, ← HK.out, mssAt_skip hp z0 z1 hnb hm, Nat.zero_add, Nat.zero_add])
              rw [ez] at HO
              rw [Nat.zero_add] at hm
              clear hnb ez hdr
              generalize ys.getD 0 0 = y0 at *
              generalize ys.getD 1 0 = y1 at *
              obtain ⟨m, rfl⟩ : ∃ m : Nat, y1 = (m : Int) := ⟨y1.toNat, by omega⟩
              rw [Int.toNat_natCast] at HRES
              have hm2 : 2 ≤ m := by omega
              have hmn : m ≤ ys.length := by omega
              have hm3 : ((y0 == 2) = false) ∨ ((y0 == 2) = true ∧ ((m : Int) == 4) = false) ∨ ((y0 == 2) = true ∧ ((m : Int) == 4) = true ∧ fd = true) := by
                by_cases c1 : y0 = 2
                · by_cases c2 : (m : Int) = 4
                  · cases fd
                    · exact absurd ⟨c1, c2, rfl⟩ hm
                    · exact .inr (.inr ⟨by simpa using c1, by simpa using c2, rfl⟩)
                  · exact .inr (.inl ⟨by simpa using c1, by simpa using c2⟩)
                · exact .inl (by simpa using c1)
              have em0 : ((m : Int) == 0) = false := by rw [beq_eq_false_iff_ne]; omega
              obtain ⟨a', c', hcut, s1, s2, s3, hrun⟩ := HB.out.run_cut (lo := m) (hi := ys.length) (by omega) (by omega)
              have hr : ∀ w', (Instr.sliceAt 23 (.slice (some ⟨bk, off, none⟩) ys.length c) (some (.int .i64 (m : Nat))) none none).run Try.prog w' = .ok (.slice a' (ys.length - m) c') w' := hrun rfl .i64
              rw [cutL_rest] at hcut
              have HCUT := Lib.hid hcut
              clear s1 s2 s3 hrun hcut
              clear hat ha hB hz0 hz1 z0 z1 hne hm hbad
              rcases hm3 with c1 | ⟨c1, c2⟩ | ⟨c1, c2, rfl⟩
              all_goals
                go_wp2_with fail
                refine HO.out.mono ?_
                rintro e wx ⟨rfl, hx⟩
                obtain rfl := hx.symm
                go_wp2_with fail
                go_round
                case rel => exact ⟨ys.drop m, N, _, HCUT.out, by rw [List.length_drop]; omega, by omega, by first | rfl | (rw [ewm]), rfl, HRES⟩
                case measure => simp only [sliceN]; omega
end Go.Proofs.Ytiaejlbkdgcfiaa
